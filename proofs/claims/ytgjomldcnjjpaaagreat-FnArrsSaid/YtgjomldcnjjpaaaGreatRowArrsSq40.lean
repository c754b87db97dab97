/-
 Plain lemmas: the parts of an array that is right. No condition; nothing of the program is named here.
-/
import Derived.Test.YtgjomldcnjjpaaaGreatRowArrsSq36
import Derived.Test.YtgjomldcnjjpaaaGreatRowArrsSq12
import Derived.Test.YtgjomldcnjjpaaaGreatRowArrsSq4
import Derived.Test.YtgjomldcnjjpaaaGreatRowArrsSq1
import Derived.Test.YtgjomldcnjjpaaaGreatRowArrsSq33
import Derived.Test.YtgjomldcnjjpaaaGreatRowArrsSq14
import Derived.Test.YtgjomldcnjjpaaaGreatRowArrsSq20
import Derived.Test.YtgjomldcnjjpaaaGreatRowArrsSq3

set_option maxRecDepth 100000
set_option maxHeartbeats 8000000
set_option linter.unusedSimpArgs false

namespace Go.Proofs.YtgjomldcnjjpaaaGreat
open Go.RowKit

def fC (q:aq×List ai) (n:Int) (s:List Int) (j:Nat):aq×List ai:=(List.range j).foldl (fun q i=>gT q i n s) q
def tr (q:aq×List ai) (y z:Int) (zs:List Int):aq×List ai:=cC (fC q (fY y) (lO y z zs) q.2.length) q.2.length
theorem oq (q:aq×List ai) (n:Int) (s:List Int) (j:Nat):fC q n s (j+1)=gT (fC q n s j) j n s:=by unfold fC;rw [List.range_succ,List.foldl_append];rfl
theorem jj {q:aq×List ai} (n:Int) (s:List Int) (h:dh q.2) (hf:q.1.xY<=1000):∀j,dh (fC q n s j).2/\ef q.1 (fC q n s j).1/\(fC q n s j).2.length=q.2.length
 | 0=>⟨h,ef.refl hf,rfl⟩
 | j+1=>by
  obtain ⟨h1,h2,h3⟩:=jj n s h hf j;rw [oq];exact ⟨qN h1,h2.trans (iE _ _ h2.2.2.2.2.2.2.2.2.2.1),by unfold gT;rw [kW];exact h3⟩
theorem wv (x y:Int) (zs:List Int):(lO x y zs).length<=zs.length+4:=by unfold lO;split<;>simp
theorem qb (w:World) (B:Nat) (x:aq) (ms:List ai) (ds:List (Int×List Int)) (fm fd:List Nat) (h:aK w B x ms ds fm fd) (hf:x.xY<=1000) (hM:dh ms) (y z:Int) (ar:Option Addr) (nr cr:Nat) (zs:List Int) (fr:List Nat) (h5:aD.Mine w [.slice ar nr cr] zs fr) (h5B:B∉fr) (h5f:∀b∈fr,b∉fm) (hnr:nr<=2000000):
 Calls Tryz.prog 148 #[.pointer (some ⟨B,0,none⟩),.agg #[.int .i64 y,.int .i64 z,.slice ar nr cr]] w fun e w'=>e=.returned (.tuple #[])/\∃fm',aK w' B (tr (x,ms) y z zs).1 (tr (x,ms) y z zs).2 ds fm' fd/\aT B fm w fm' w':=by
 have hzl:=(ag h5.rd).1;have HK:Hid (∀j,_):=fun j=>jj (q:=(x,ms)) (fY y) (lO y z zs) hM hf j;have HRK:Hid (tr (x,ms) y z zs=cC (fC (x,ms) (fY y) (lO y z zs) ms.length) ms.length):=rfl;obtain ⟨P,hPP⟩:∃P,lO y z zs=P:=⟨_,rfl⟩;have hPl:P.length<=nr+4:=by rw [←hPP,←hzl];exact wv y z zs
 have HPP:=aa hPP;rw [hPP] at HK HRK;clear hPP;have hA:=af w (.cells #[.int .i64 y,.int .i64 z,.slice ar nr cr] 162);have YB:=Box.new w 162 #[.int .i64 y,.int .i64 z,.slice ar nr cr];have zY:=YB.lt;have zB:=h.lt;have hlm:=h.ltm.1;have hlr:=h5.lt;have A0:=aa (h.below hA);have M5:=aa (h5.below hA);have BA:=aa hA;have hmx:∃cm0,ms.length<=cm0/\cm0<=9223372036854775807:=by
  obtain ⟨_,_,cm0,_,_,hm0,_⟩:=h;exact ⟨cm0,(ag hm0.rd).2⟩
 obtain ⟨cm0,hmx⟩:=hmx;go_enter Tryz.func148,Tryz.ntmps148
 go_wp2
 have zW:(w.alloc (.cells #[.int .i64 y,.int .i64 z,.slice ar nr cr] 162)).heap.size=w.heap.size+1:=by simp
 have YH:=aa YB;clear YB hA;generalize w.alloc (.cells #[.int .i64 y,.int .i64 z,.slice ar nr cr] 162)=W at A0 M5 BA YH zY zW ⊢;go_loopw [4] (fun i wr=>∃(j:Nat) (fm1:List Nat),j<=ms.length/\i=.int .i64 j/\aK wr B (fC (x,ms) (fY y) P j).1 (fC (x,ms) (fY y) P j).2 ds fm1 fd/\aT B fm W fm1 wr) (fun i _=>ms.length-(intOf i).toNat)
 case atStart=>exact ⟨0,fm,Nat.zero_le _,rfl,A0.out,aT.refl _ _ _⟩
 obtain ⟨j,fm1,hj,rfl,hA,hMv⟩:=hrel;obtain ⟨hMj,hsj,hlj⟩:=HK.out j;have hfj:=hsj.2.2.2.2.2.2.2.2.2.1;have HS:=aa (oq (x,ms) (fY y) P j);generalize hst:fC (x,ms) (fY y) P j=st at hA hMj hsj hlj hfj HS;have HST:=aa hst;clear hst;obtain ⟨y1,ns⟩:=st;dsimp only at hA hMj hsj hlj hfj HS
 clear hsj;have HA:=aa hA;obtain ⟨bm,bd,cm,cd,X,hmm,hdd,hr,r1,r2⟩:=hA;rw [hlj] at X;unfold bH at X;have k3:=X.cells13.2.2.2.1;clear hmm hdd hr r1 r2 X;have yb:=hMv.box YH.out (by omega) (fun hm=>by have:=hlm _ hm;omega);have m5:=hMv.mine M5.out h5B h5f;have zw:=hMv.size;have zr:=HA.out.lt;by_cases hjn:j<ms.length
 . have i2:(j:Int)<(ms.length:Int):=by omega
   obtain ⟨y0,y1',y2'⟩:=yb.cells3;have MV:=aa hMv;have RD:=aa ((aR m5.rd).1);have zyb:=yb.lt;have YBH:=aa yb;clear hMv m5 yb;have hS:wr.drew.cell? ⟨w.heap.size,0,none⟩=some (.int .i64 y)/\wr.drew.cell? ⟨w.heap.size,1,none⟩=some (.int .i64 z)/\wr.drew.cell? ⟨w.heap.size,2,none⟩=some (.slice ar nr cr):=⟨y0,y1',y2'⟩;go_wp2_with fail
   refine wp_region_held_drew (S:=fun w'=>w'.cell? ⟨w.heap.size,0,none⟩=some (.int .i64 y)/\w'.cell? ⟨w.heap.size,1,none⟩=some (.int .i64 z)/\w'.cell? ⟨w.heap.size,2,none⟩=some (.slice ar nr cr)) (by kernel_rfl) ?_ (fun xV=>?_)
   . exact hS
   refine ae 0 xV ?_
   refine ae 1 xV ?_
   refine ae 2 xV ?_
   refine ae 3 xV ?_
   refine ae 5 xV ?_
   refine aw (i:=4) (by kernel_rfl) rfl (by kernel_rfl) (fun K hK=>?_)
   go_simp
   refine (nu _ _).mono ?_
   rintro e w9 ⟨rfl,h9⟩;subst h9;go_wp2_with fail
   clear xV;refine hK.out _ _ ?_ (fun xV=>?_)
   . exact hS
   clear hK K;refine aw (i:=6) (by kernel_rfl) rfl (by kernel_rfl) (fun K hK=>?_)
   go_simp
   refine (oo _ y z _ _ _ zs hzl RD.out.draw (by omega)).mono ?_
   rintro e w2 ⟨ap,lp,cp,rfl,o2,b2'⟩;have b2:Below wr.heap.size wr w2:=(Below.refl wr.heap.size wr).drew.trans b2';have o2b:aD.Own w2 wr.heap.size w2.heap.size [.slice ap lp cp] P:=by rw [←HPP.out];exact o2
   obtain ⟨fpp,mp,rp⟩:=o2b.mine;have hlp:lp<=2000004:=by have h1:=(ag o2b.rd).1;omega
   have hS2:w2.cell? ⟨w.heap.size,0,none⟩=some (.int .i64 y)/\w2.cell? ⟨w.heap.size,1,none⟩=some (.int .i64 z)/\w2.cell? ⟨w.heap.size,2,none⟩=some (.slice ar nr cr):=⟨(b2.cell (p:=⟨w.heap.size,0,none⟩) zyb).trans y0,(b2.cell (p:=⟨w.heap.size,1,none⟩) zyb).trans y1',(b2.cell (p:=⟨w.heap.size,2,none⟩) zyb).trans y2'⟩;have A2:=aa (HA.out.below b2);have LT:=aa HA.out.ltm;have MV2:=aa (MV.out.below b2);have YB2:=aa (YBH.out.below b2 zyb);have MP:=aa mp;have RP:=aa rp;have z2:=b2.size;clear y0 y1' y2' o2 o2b b2 b2' mp rp MV HA YBH RD;go_wp2_with fail
   clear xV;refine hK.out _ _ ?_ (fun xV=>?_)
   . exact hS2
   clear hK K;refine aw (i:=7) (by kernel_rfl) rfl (by kernel_rfl) (fun K hK=>?_)
   go_simp
   refine (iF _ B y1 ns ds fm1 fd A2.out hfj hMj j (by omega) _ _ _ _ P fpp MP.out (fun hm=>by have:=RP.out _ hm;omega) (fun b hb hm=>by have h1:=RP.out b hb;have h2:=LT.out.1 b hm;omega) (by omega)).mono ?_
   rintro e w3 ⟨rfl,fm3,hA3,hMv3⟩;have HM3:=aa (MV2.out.trans hMv3);have YB3:=HM3.out.box YH.out (by omega) (fun hm=>by have:=hlm _ hm;omega);have hS3:w3.cell? ⟨w.heap.size,0,none⟩=some (.int .i64 y)/\w3.cell? ⟨w.heap.size,1,none⟩=some (.int .i64 z)/\w3.cell? ⟨w.heap.size,2,none⟩=some (.slice ar nr cr):=YB3.cells3;have HA3:Hid (aK w3 B (fC (x,ms) (fY y) P (j+1)).1 (fC (x,ms) (fY y) P (j+1)).2 ds fm3 fd):=by unfold Hid;rw [HS.out];exact hA3
   clear hA3 hMv3 A2 MV2 MP RP LT hS2 YB2 YB3;go_wp2_with fail
   clear xV;refine hK.out _ _ ?_ (fun xV=>?_)
   . exact hS3
   clear hK K;refine wpAnyH_done (by kernel_rfl) ?_ _
   clear xV;clear hS hS3;go_wp2
   go_roundw
   case rel=>exact ⟨j+1,fm3,by omega,by go_num,HA3.out,HM3.out⟩
   case measure=>simp [intOf];omega
 have ej:j=ms.length:=by omega
 subst ej;have HMV:=aa (((aT.refl B fm w).below BA.out).trans hMv);clear hMv m5 yb;go_wp2_with fail
 refine (jU _ B y1 ns ds fm1 fd HA.out hfj hMj).mono ?_
 rintro e w3 ⟨rfl,fm3,hA3,hMv3⟩;clear k3;go_wp2
 refine bodyPost_end (v:=.tuple #[]) (results_none rfl _ _ _) rfl ?_
 exact ⟨rfl,fm3,by rw [HRK.out,HST.out,←hlj];exact hA3,HMV.out.trans hMv3⟩
def wr1 (q:aq×List ai):aq×List ai:=if 4<=q.1.seq-q.1.tail then et q else q
def wr2 (q:aq×List ai) (s:Int) (zs:List Int):aq×List ai:=tr q q.1.seq s zs
def wr3 (q:aq×List ai) (s:Int) (zs:List Int):aq×List ai:=bO ({q.1 with seq:=q.1.seq+1},q.2) s (eS q.1.n q.1.s s) zs q.2.length
def qP (q:aq×List ai) (s:Int) (zs:List Int):aq×List ai:=if (wr2 q s zs).1.down=true then wr2 q s zs else wr3 (wr2 q s zs) s zs
def aZ (q:aq×List ai) (s:Int) (zs:List Int):aq×List ai:=if (wr1 q).1.down=true then wr1 q else qP (wr1 q) s zs
def dm (x:aq) (ms:List ai) (ds:List (Int×List Int)) (s:Int) (zs:List Int):Int:=
 if (bf x ms ds&&(decide ((zs.length:Int)=x.n-1)&&dg zs))=false then 1 else if x.down=true then 6 else if inB s 0 (x.s-1)=false then 2 else if x.xX=true then 5 else if x.seq=60000∨59990<=x.gen then 7 else 0
def eF (x:aq) (ms:List ai) (ds:List (Int×List Int)) (s:Int) (zs:List Int):aq×List ai:=if dm x ms ds s zs=0 then aZ (x,ms) s zs else (x,ms)
def dW (x:aq) (ms:List ai) (ds:List (Int×List Int)) (s:Int) (zs:List Int):Int:=if dm x ms ds s zs=0 then (if (aZ (x,ms) s zs).1.down=true then 6 else 0) else dm x ms ds s zs
theorem lP {x:aq} {ms:List ai} {ds:List (Int×List Int)} {s:Int} {zs:List Int} (h:dm x ms ds s zs=0):bf x ms ds=true/\(zs.length:Int)=x.n-1/\dg zs=true/\x.down=false/\inB s 0 (x.s-1)=true/\x.xX=false/\¬x.seq=60000/\x.gen<59990:=by
 unfold dm at h;split at h
 . cases h
 rename_i h1
 split at h
 . cases h
 rename_i h2
 split at h
 . cases h
 rename_i h3
 split at h
 . cases h
 rename_i h4
 split at h
 . cases h
 rename_i h5
 simp only [Bool.not_eq_false,Bool.and_eq_true,decide_eq_true_eq] at h1
 refine ⟨h1.1,h1.2.1,h1.2.2,by simpa using h2,by simpa using h3,by simpa using h4,fun e=>h5 (.inl e),?_⟩
 have:¬59990<=x.gen:=fun e=>h5 (.inr e);omega
def Fit (q q':aq×List ai):Prop:=dh q'.2/\q'.2.length=q.2.length/\q'.1.n=q.1.n/\q'.1.s=q.1.s/\q'.1.seq=q.1.seq/\q'.1.xY<=1000
theorem Fit.trans {a b c:aq×List ai} (h:Fit a b) (k:Fit b c):Fit a c:=⟨k.1,k.2.1.trans h.2.1,k.2.2.1.trans h.2.2.1,k.2.2.2.1.trans h.2.2.2.1,k.2.2.2.2.1.trans h.2.2.2.2.1,k.2.2.2.2.2⟩
theorem ot {q q':aq×List ai} (h1:dh q'.2) (h2:ef q.1 q'.1) (h3:q'.2.length=q.2.length):Fit q q':=⟨h1,h3,h2.2.1,h2.2.2.1,h2.2.2.2.2.2.1,h2.2.2.2.2.2.2.2.2.2.1⟩
theorem ou {q:aq×List ai} (h:dh q.2) (hf:q.1.xY<=1000) (j:Nat):Fit q (cC q j):=by
 obtain ⟨a,b,c⟩:=ia h hf j;exact ot a b c
theorem ww {q:aq×List ai} (h:dh q.2) (hf:q.1.xY<=1000):Fit q (ge q):=by
 obtain ⟨a,b,c⟩:=ji (q:=({q.1 with gen:=q.1.gen+1},q.2)) h hf q.2.length;have h1:=ot (q:=({q.1 with gen:=q.1.gen+1},q.2)) a b c;exact Fit.trans (show Fit q (fR ({q.1 with gen:=q.1.gen+1},q.2) q.2.length) from h1) (ou a h1.2.2.2.2.2 _)
theorem uT {q:aq×List ai} (h:dh q.2) (hf:q.1.xY<=1000):Fit q (et q):=by
 have h1:=ou h hf q.2.length;unfold et;split
 . exact h1
 exact h1.trans (ww (q:=({(cC q q.2.length).1 with tail:=(cC q q.2.length).1.seq},(cC q q.2.length).2)) h1.1 h1.2.2.2.2.2)
theorem ub {q:aq×List ai} (h:dh q.2) (hf:q.1.xY<=1000):Fit q (wr1 q):=by
 unfold wr1;split
 . exact uT h hf
 exact ⟨h,rfl,rfl,rfl,rfl,hf⟩
theorem wx {q:aq×List ai} (h:dh q.2) (hf:q.1.xY<=1000) (n:Int) (s:List Int) (j:Nat):Fit q (fC q n s j):=by
 obtain ⟨a,b,c⟩:=jj n s h hf j;exact ot a b c
theorem qQ {q:aq×List ai} (h:dh q.2) (hf:q.1.xY<=1000) (s:Int) (zs:List Int):Fit q (wr2 q s zs):=by
 have h1:=wx h hf (fY q.1.seq) (lO q.1.seq s zs) q.2.length;exact h1.trans (ou h1.1 h1.2.2.2.2.2 _)
theorem qR {q:aq×List ai} (h:dh q.2) (hf:q.1.xY<=1000) (s:Int) (zs:List Int):dh (aZ q s zs).2/\(aZ q s zs).2.length=q.2.length:=by
 have h1:=ub h hf;unfold aZ;split
 . exact ⟨h1.1,h1.2.1⟩
 have h2:=h1.trans (qQ h1.1 h1.2.2.2.2.2 s zs);unfold qP;split
 . exact ⟨h2.1,h2.2.1⟩
 obtain ⟨a,_,c⟩:=iN (q:=({(wr2 (wr1 q) s zs).1 with seq:=(wr2 (wr1 q) s zs).1.seq+1},(wr2 (wr1 q) s zs).2)) s (eS (wr2 (wr1 q) s zs).1.n (wr2 (wr1 q) s zs).1.s s) zs h2.1 h2.2.2.2.2.2 (wr2 (wr1 q) s zs).2.length;exact ⟨a,c.trans h2.2.1⟩
theorem uU (x:Sup):(dE x).length<=9:=by unfold dE;split<;>simp
theorem iO (w:World) (B:Nat) (x:aq) (ms:List ai) (ds:List (Int×List Int)) (fm fd:List Nat) (h:aK w B x ms ds fm fd) (hf:x.xY<=1000) (hM:dh ms) (hg0:0<=x.gen) (hg1:x.gen<=60000):
 Calls Tryz.prog 134 #[.pointer (some ⟨B,0,none⟩)] w fun e w'=>e=.returned (.tuple #[])/\∃fm',aK w' B (ge (x,ms)).1 (ge (x,ms)).2 ds fm' fd/\aT B fm w fm' w':=by
 obtain ⟨x1,hx1⟩:∃x1:aq,x1={x with gen:=x.gen+1}:=⟨_,rfl⟩;have hf1:x1.xY<=1000:=by rw [hx1];exact hf
 have hgen:x1.gen=x.gen+1:=by rw [hx1]
 have hgw:IntKind.i64.wrap (x.gen+1)=x.gen+1:=IntWalk.i64_in _ (by omega);have HK:Hid (∀j,_):=fun j=>ji (q:=(x1,ms)) hM hf1 j;have HMK:Hid (ge (x,ms)=cC (fR (x1,ms) ms.length) ms.length):=by rw [hx1];rfl
 obtain ⟨bm0,bd0,cm0,cd0,X0,hm0,hd0,hr0,r10,r20⟩:=h;have hmx:=(ag hm0.rd).2;have A1:Hid (aK (w.setCell ⟨B,8,none⟩ (.int .i64 (x.gen+1))) B x1 ms ds fm fd):=by
  unfold Hid;rw [hx1];exact ⟨bm0,bd0,cm0,cd0,X0.set 8 (.int .i64 (x.gen+1)),hm0.setCell (g:=B) (j:=8) r10 _,hd0.setCell (g:=B) (j:=8) r20 _,hr0,r10,r20⟩
 have M1:=aa (aT.set (B:=B) (j:=8) (fm:=fm) (w:=w) (.int .i64 (x.gen+1)));unfold bH at X0;obtain ⟨k0,k1,k2,k3,k4,k5,k6,k7,k8,k9,k10,k11,k12⟩:=X0.cells13;have fz:=X0.frozen;have hgn:0<=x1.gen/\x1.gen<=60001:=by omega
 clear X0 hm0 hd0 hr0 r10 r20 hx1 hgen;go_enter Tryz.func134,Tryz.ntmps134
 go_wp2
 generalize w.setCell ⟨B,8,none⟩ (.int .i64 (x.gen+1))=W at A1 M1 ⊢;clear k0 k1 k2 k3 k4 k5 k6 k7 k8 k9 k10 k11 k12 fz;go_loopw [2] (fun i wr=>∃(j:Nat) (fm1:List Nat),j<=ms.length/\i=.int .i64 j/\aK wr B (fR (x1,ms) j).1 (fR (x1,ms) j).2 ds fm1 fd/\aT B fm w fm1 wr) (fun i _=>ms.length-(intOf i).toNat)
 case atStart=>exact ⟨0,fm,Nat.zero_le _,rfl,A1.out,M1.out⟩
 clear A1 M1;obtain ⟨j,fm1,hj,rfl,hA,hMv⟩:=hrel;obtain ⟨hMj,hsj,hlj⟩:=HK.out j;have hfj:=hsj.2.2.2.2.2.2.2.2.2.1;have hgj:=hsj.2.2.2.2.2.2.2.1;have HS:=aa (jT (x1,ms) j);generalize hst:fR (x1,ms) j=st at hA hMj hsj hlj hfj hgj HS;have HST:=aa hst;clear hst;obtain ⟨y,ns⟩:=st;dsimp only at hA hMj hsj hlj hfj hgj HS
 have hgy:0<=y.gen/\y.gen<=60001:=by omega
 clear hgj hsj;have HA:=aa hA;obtain ⟨bm,bd,cm,cd,X,hmm,hdd,hr,r1,r2⟩:=hA;rw [hlj] at X;unfold bH at X;have zB:=X.lt;have XH:=aa X;obtain ⟨k0,k1,k2,k3,k4,k5,k6,k7,k8,k9,k10,k11,k12⟩:=X.cells13;clear hmm hdd hr r1 r2 X;by_cases hjn:j<ms.length
 . have i2:(j:Int)<(ms.length:Int):=by omega
   have t2:y.gen.tmod 2=y.gen % 2:=Int.tmod_eq_emod_of_nonneg hgy.1;have t3:IntKind.i64.wrap (y.gen % 2)=y.gen % 2:=IntWalk.i64_in _ (by omega);have t4:¬(2:Int)=0:=by omega
   have MV:=aa hMv;clear hMv;have hS:wr.drew.cell? ⟨B,0,none⟩=some (.int .i64 y.id)/\wr.drew.cell? ⟨B,1,none⟩=some (.int .i64 y.n)/\wr.drew.cell? ⟨B,2,none⟩=some (.int .i64 y.s)/\wr.drew.cell? ⟨B,4,none⟩=some (.int .i64 y.lost)/\wr.drew.cell? ⟨B,5,none⟩=some (.int .i64 y.xW)/\wr.drew.cell? ⟨B,7,none⟩=some (.int .i64 y.tail)/\wr.drew.cell? ⟨B,8,none⟩=some (.int .i64 y.gen):=⟨k0,k1,k2,k4,k5,k7,k8⟩;go_wp2_with fail
   refine wp_region_held_drew (S:=fun w'=>w'.cell? ⟨B,0,none⟩=some (.int .i64 y.id)/\w'.cell? ⟨B,1,none⟩=some (.int .i64 y.n)/\w'.cell? ⟨B,2,none⟩=some (.int .i64 y.s)/\w'.cell? ⟨B,4,none⟩=some (.int .i64 y.lost)/\w'.cell? ⟨B,5,none⟩=some (.int .i64 y.xW)/\w'.cell? ⟨B,7,none⟩=some (.int .i64 y.tail)/\w'.cell? ⟨B,8,none⟩=some (.int .i64 y.gen)) (by kernel_rfl) ?_ (fun xV=>?_)
   . exact hS
   refine ae 0 xV ?_
   refine ae 1 xV ?_
   refine ae 2 xV ?_
   refine ae 3 xV ?_
   refine ae 4 xV ?_
   refine ae 5 xV ?_
   refine ae 6 xV ?_
   refine ae 7 xV ?_
   refine ae 8 xV ?_
   refine ae 9 xV ?_
   refine ae 10 xV ?_
   refine ae 11 xV ?_
   refine ae 12 xV ?_
   refine ae 13 xV ?_
   refine ae 14 xV ?_
   refine ae 15 xV ?_
   refine ae 16 xV ?_
   refine ae 17 xV ?_
   refine ae 18 xV ?_
   refine ae 19 xV ?_
   refine ae 20 xV ?_
   refine ae 21 xV ?_
   refine ae 22 xV ?_
   refine ae 23 xV ?_
   refine ae 24 xV ?_
   refine ae 25 xV ?_
   refine ae 26 xV ?_
   refine ae 27 xV ?_
   refine ae 28 xV ?_
   refine ae 29 xV ?_
   refine ae 30 xV ?_
   refine ae 31 xV ?_
   refine ae 32 xV ?_
   refine ae 33 xV ?_
   refine ae 34 xV ?_
   refine ae 35 xV ?_
   refine ae 36 xV ?_
   refine ae 37 xV ?_
   refine ae 38 xV ?_
   refine aw (i:=39) (by kernel_rfl) rfl (by kernel_rfl) (fun K hK=>?_)
   go_simp
   refine (ij _ (tp y j)).mono ?_
   rintro e w2 ⟨ap,lp,cp,rfl,o2,b2'⟩;have b2:Below wr.heap.size wr w2:=(Below.refl wr.heap.size wr).drew.trans b2';have o2b:aD.Own w2 wr.heap.size w2.heap.size [.slice ap lp cp] (dE (tp y j)):=o2;obtain ⟨fpp,mp,rp⟩:=o2b.mine;have hlp:lp<=9:=by have h1:=(ag o2b.rd).1;have h2:=uU (tp y j);omega
   have hS2:w2.cell? ⟨B,0,none⟩=some (.int .i64 y.id)/\w2.cell? ⟨B,1,none⟩=some (.int .i64 y.n)/\w2.cell? ⟨B,2,none⟩=some (.int .i64 y.s)/\w2.cell? ⟨B,4,none⟩=some (.int .i64 y.lost)/\w2.cell? ⟨B,5,none⟩=some (.int .i64 y.xW)/\w2.cell? ⟨B,7,none⟩=some (.int .i64 y.tail)/\w2.cell? ⟨B,8,none⟩=some (.int .i64 y.gen):=⟨(b2.cell (p:=⟨B,0,none⟩) zB).trans k0,(b2.cell (p:=⟨B,1,none⟩) zB).trans k1,(b2.cell (p:=⟨B,2,none⟩) zB).trans k2,(b2.cell (p:=⟨B,4,none⟩) zB).trans k4,(b2.cell (p:=⟨B,5,none⟩) zB).trans k5,(b2.cell (p:=⟨B,7,none⟩) zB).trans k7,(b2.cell (p:=⟨B,8,none⟩) zB).trans k8⟩;have A2:=aa (HA.out.below b2);have LT:=aa HA.out.ltm;have MV2:=aa (MV.out.below b2);have MP:=aa mp;have RP:=aa rp;clear k0 k1 k2 k3 k4 k5 k6 k7 k8 k9 k10 k11 k12 o2 o2b b2 b2' mp rp MV HA;go_wp2_with fail
   clear xV;refine hK.out _ _ ?_ (fun xV=>?_)
   . exact hS2
   clear hK K;refine aw (i:=40) (by kernel_rfl) rfl (by kernel_rfl) (fun K hK=>?_)
   go_simp
   refine (iF _ B y ns ds fm1 fd A2.out hfj hMj j (by omega) _ _ _ _ (dE (tp y j)) fpp MP.out (fun hm=>by have:=RP.out _ hm;omega) (fun b hb hm=>by have h1:=RP.out b hb;have h2:=LT.out.1 b hm;omega) (by omega)).mono ?_
   rintro e w3 ⟨rfl,fm3,hA3,hMv3⟩;have hsm:ef y (gT (y,ns) j (y.gen % 2) (dE (tp y j))).1:=iE _ _ hfj;have hS3:w3.cell? ⟨B,0,none⟩=some (.int .i64 y.id)/\w3.cell? ⟨B,1,none⟩=some (.int .i64 y.n)/\w3.cell? ⟨B,2,none⟩=some (.int .i64 y.s)/\w3.cell? ⟨B,4,none⟩=some (.int .i64 y.lost)/\w3.cell? ⟨B,5,none⟩=some (.int .i64 y.xW)/\w3.cell? ⟨B,7,none⟩=some (.int .i64 y.tail)/\w3.cell? ⟨B,8,none⟩=some (.int .i64 y.gen):=by
    obtain ⟨_,_,_,_,X3,_⟩:=hA3;unfold bH at X3;obtain ⟨k0,k1,k2,k3,k4,k5,k6,k7,k8,k9,k10,k11,k12⟩:=X3.cells13;obtain ⟨e1,e2,e3,e4,e5,e6,e7,e8,_⟩:=hsm;rw [e1] at k0;rw [e2] at k1;rw [e3] at k2;rw [e4] at k4;rw [e5] at k5;rw [e7] at k7;rw [e8] at k8;exact ⟨k0,k1,k2,k4,k5,k7,k8⟩
   have HA3:Hid (aK w3 B (fR (x1,ms) (j+1)).1 (fR (x1,ms) (j+1)).2 ds fm3 fd):=by unfold Hid;rw [HS.out];exact hA3
   have HM3:=aa (MV2.out.trans hMv3);clear hA3 hMv3 A2 MV2 MP RP LT hS2 hsm;go_wp2_with fail
   clear xV;refine hK.out _ _ ?_ (fun xV=>?_)
   . exact hS3
   clear hK K;refine wpAnyH_done (by kernel_rfl) ?_ _
   clear xV;clear hS hS3;go_wp2
   go_roundw
   case rel=>exact ⟨j+1,fm3,by omega,by go_num,HA3.out,HM3.out⟩
   case measure=>simp [intOf];omega
 have ej:j=ms.length:=by omega
 subst ej;have HMV:=aa hMv;clear hMv;go_wp2_with fail
 refine (jU _ B y ns ds fm1 fd HA.out hfj hMj).mono ?_
 rintro e w3 ⟨rfl,fm3,hA3,hMv3⟩;clear k0 k1 k2 k3 k4 k5 k6 k7 k8 k9 k10 k11 k12;go_wp2
 refine bodyPost_end (v:=.tuple #[]) (results_none rfl _ _ _) rfl ?_
 exact ⟨rfl,fm3,by rw [HMK.out,HST.out,←hlj];exact hA3,HMV.out.trans hMv3⟩
theorem jk (w:World) (B:Nat) (x:aq) (ms:List ai) (ds:List (Int×List Int)) (fm fd:List Nat) (h:aK w B x ms ds fm fd) (hf:x.xY<=1000) (hM:dh ms) (hg0:0<=x.gen) (hg1:x.gen<=60000):
 Calls Tryz.prog 117 #[.pointer (some ⟨B,0,none⟩)] w fun e w'=>e=.returned (.tuple #[])/\∃fm',aK w' B (et (x,ms)).1 (et (x,ms)).2 ds fm' fd/\aT B fm w fm' w':=by
 obtain ⟨hMj,hsj,hlj⟩:=ia (q:=(x,ms)) hM hf ms.length;have hfj:=hsj.2.2.2.2.2.2.2.2.2.1;have hgj:=hsj.2.2.2.2.2.2.2.1;have HC:Hid (et (x,ms)=if (cC (x,ms) ms.length).1.down=true then cC (x,ms) ms.length else ge ({(cC (x,ms) ms.length).1 with tail:=(cC (x,ms) ms.length).1.seq},(cC (x,ms) ms.length).2)):=rfl;go_enter Tryz.func117,Tryz.ntmps117
 go_wp2_with fail
 refine (jU _ B x ms ds fm fd h hf hM).mono ?_
 rintro e w1 ⟨rfl,fm1,hA,hMv⟩;generalize cC (x,ms) ms.length=st at hA hMj hsj hlj hfj hgj HC;obtain ⟨y,ns⟩:=st;dsimp only at hA hMj hsj hlj hfj hgj HC
 have HA:=aa hA;obtain ⟨bm,bd,cm,cd,X,hmm,hdd,hr,r1,r2⟩:=hA;have X0:=X;unfold bH at X0;obtain ⟨k0,k1,k2,k3,k4,k5,k6,k7,k8,k9,k10,k11,k12⟩:=X0.cells13;have fz:=X0.frozen;cases hdn:y.down
 . rw [hdn] at k11
   have HC2:Hid (et (x,ms)=ge ({y with tail:=y.seq},ns)):=by unfold Hid;rw [HC.out,if_neg (by simp [hdn])]
   have A2:Hid (aK (w1.setCell ⟨B,7,none⟩ (.int .i64 y.seq)) B {y with tail:=y.seq} ns ds fm1 fd):=⟨bm,bd,cm,cd,X.set 7 (.int .i64 y.seq),hmm.setCell (g:=B) (j:=7) r1 _,hdd.setCell (g:=B) (j:=7) r2 _,hr,r1,r2⟩;have M2:=aa (hMv.trans (aT.set (B:=B) (j:=7) (fm:=fm1) (.int .i64 y.seq)));clear X X0 hmm hdd hMv HA hdn;go_wp2_with fail
   refine (iO _ B {y with tail:=y.seq} ns ds fm1 fd A2.out hfj hMj (by dsimp only;omega) (by dsimp only;omega)).mono ?_
   rintro e w3 ⟨rfl,fm3,hA3,hMv3⟩;clear k0 k1 k2 k3 k4 k5 k6 k7 k8 k9 k10 k11 k12 fz;go_wp2
   refine bodyPost_end (v:=.tuple #[]) (results_none rfl _ _ _) rfl ?_
   exact ⟨rfl,fm3,by rw [HC2.out];exact hA3,M2.out.trans hMv3⟩
 rw [hdn] at k11;have HC2:Hid (et (x,ms)=(y,ns)):=by unfold Hid;rw [HC.out,if_pos hdn]
 clear X X0 hmm hdd hdn;go_wp2
 refine bodyPost_ret (v:=.tuple #[]) (by simp [results,Tryz.results117,go_sem]) rfl ?_
 exact ⟨rfl,fm1,by rw [HC2.out];exact HA.out,hMv⟩
theorem ts (w:World) (E F G:TypeId) (x:aq) (am ad:Option Addr) (nm cm nd cd:Nat) (ms:List ai) (ds:List (Int×List Int)) (h0:(bI E F).Rd w [.slice am nm cm] ms) (h1:(aW G).Rd w [.slice ad nd cd] ds) (hw:bh ms ds<=2097152) (s:Int) (ar:Option Addr) (cr:Nat) (zs:List Int) (h5:aD.Rd w [.slice ar zs.length cr] zs) (hz5:zs.length<=2097152):
 Calls Tryz.prog 132 #[.agg #[.int .i64 x.id,.int .i64 x.n,.int .i64 x.s,.slice am nm cm,.int .i64 x.lost,.int .i64 x.xW,.int .i64 x.seq,.int .i64 x.tail,.int .i64 x.gen,.slice ad nd cd,.int .i64 x.xY,.bool x.down,.bool x.xX],.int .i64 s,.slice ar zs.length cr] w fun e w'=>e=.returned (.int .i64 (dm x ms ds s zs))/\Below w.heap.size w w':=by
 have hA:=af w (.cells #[.int .i64 x.id,.int .i64 x.n,.int .i64 x.s,.slice am nm cm,.int .i64 x.lost,.int .i64 x.xW,.int .i64 x.seq,.int .i64 x.tail,.int .i64 x.gen,.slice ad nd cd,.int .i64 x.xY,.bool x.down,.bool x.xX] 31);have X0:=Box.new w 31 #[.int .i64 x.id,.int .i64 x.n,.int .i64 x.s,.slice am nm cm,.int .i64 x.lost,.int .i64 x.xW,.int .i64 x.seq,.int .i64 x.tail,.int .i64 x.gen,.slice ad nd cd,.int .i64 x.xY,.bool x.down,.bool x.xX];have zX:=X0.lt;have r0:=h0.below hA;have r1:=h1.below hA;have r5:=h5.below hA;obtain ⟨k0,k1,k2,k3,k4,k5,k6,k7,k8,k9,k10,k11,k12⟩:=X0.cells13;go_enter Tryz.func132,Tryz.ntmps132
 go_wp2_with fail
 generalize w.alloc (.cells #[.int .i64 x.id,.int .i64 x.n,.int .i64 x.s,.slice am nm cm,.int .i64 x.lost,.int .i64 x.xW,.int .i64 x.seq,.int .i64 x.tail,.int .i64 x.gen,.slice ad nd cd,.int .i64 x.xY,.bool x.down,.bool x.xX] 31)=W at hA X0 zX r0 r1 r5 k0 k1 k2 k3 k4 k5 k6 k7 k8 k9 k10 k11 k12 ⊢;refine (jC _ E F G x _ _ _ _ _ _ ms ds r0 r1 hw).mono ?_
 rintro e w1 ⟨rfl,b1⟩;have X1:=X0.below b1 zX;have p5:=r5.below b1;have B1:=Below.andThen hA b1;clear k0 k1 k2 k3 k4 k5 k6 k7 k8 k9 k10 k11 k12 X0 r0 r1 r5 b1 hA zX;obtain ⟨k0,k1,k2,k3,k4,k5,k6,k7,k8,k9,k10,k11,k12⟩:=X1.cells13;cases ha:bf x ms ds
 . have HV:Hid (dm x ms ds s zs=1):=by unfold Hid dm;rw [ha,Bool.false_and,if_pos rfl]
   clear ha;have HB:=aa B1;clear B1;go_wp2
   go_ret
   exact ⟨aF HV.out.symm,HB.out⟩
 have hln:=qO ha;have hrg:x.seq<=60000/\1<=x.s/\x.s<=8/\bL x.n x.s=true:=by
  unfold bf ez at ha;simp only [Bool.and_eq_true,aG,decide_eq_true_eq] at ha
  obtain ⟨hgeo,_,_,_,_,htl,hsq2,hst,_⟩:=ha;have:=aB.1 hgeo;exact ⟨hsq2.2,this.2.2.1,this.2.2.2,hgeo⟩
 obtain ⟨hn3,hn5,hnl⟩:=hln;clear hnl;obtain ⟨hq6,hs1,hs8,hgeo⟩:=hrg;have wn:IntKind.i64.wrap (x.n-1)=x.n-1:=IntWalk.i64_in _ (by omega);have ws:IntKind.i64.wrap (x.s-1)=x.s-1:=IntWalk.i64_in _ (by omega);by_cases hzl:(zs.length:Int)=x.n-1
 . have hne:((zs.length:Int) !=x.n-1)=false:=by simp [hzl]
   have HZL:=aa hzl;have h12:zs.length<=12:=by omega
   have hsec:cR zs=dg zs:=by unfold cR;rw [decide_eq_true h12,Bool.true_and]
   have HSEC:=aa hsec;clear hzl hsec h12;have X2:=X1;have q5:=p5;have B2:=B1;clear X1 p5 B1;go_wp2_with fail
   refine (dX _ _ _ _ zs rfl (aR q5).1 hz5).mono ?_
   rintro e w3 ⟨rfl,hw3⟩;subst hw3;have X3:=X2;have B3:=B2;clear k0 k1 k2 k3 k4 k5 k6 k7 k8 k9 k10 k11 k12 X2 q5 B2;obtain ⟨k0,k1,k2,k3,k4,k5,k6,k7,k8,k9,k10,k11,k12⟩:=X3.cells13;cases haw:dg zs
   . have HV:Hid (dm x ms ds s zs=1):=by unfold Hid dm;rw [ha,haw,Bool.and_false,Bool.and_false,if_pos rfl]
     clear haw ha;have HB:=aa B3;clear B3;go_wp2
     go_ret
     exact ⟨aF HV.out.symm,HB.out⟩
   have HU:Hid (dm x ms ds s zs=if x.down=true then 6 else if inB s 0 (x.s-1)=false then 2 else if x.xX=true then 5 else if x.seq=60000∨59990<=x.gen then 7 else 0):=by unfold Hid dm;rw [ha,haw,decide_eq_true HZL.out,if_neg (by simp)]
   clear haw ha;cases hdn:x.down
   . rw [hdn] at k11
     have HU2:Hid (dm x ms ds s zs=if inB s 0 (x.s-1)=false then 2 else if x.xX=true then 5 else if x.seq=60000∨59990<=x.gen then 7 else 0):=by unfold Hid;rw [HU.out,hdn,if_neg (by simp)]
     clear hdn HU;go_wp2_with fail
     refine (aE s 0 (x.s-1) _).mono ?_
     rintro e w4 ⟨rfl,hw4⟩;subst hw4;have X4:=X3;have B4:=B3;clear X3 B3;cases hin:inB s 0 (x.s-1)
     . have HV:Hid (dm x ms ds s zs=2):=by unfold Hid;rw [HU2.out,hin,if_pos rfl]
       clear hin;have HB:=aa B4;clear B4;go_wp2
       go_ret
       exact ⟨aF HV.out.symm,HB.out⟩
     have HU3:Hid (dm x ms ds s zs=if x.xX=true then 5 else if x.seq=60000∨59990<=x.gen then 7 else 0):=by unfold Hid;rw [HU2.out,hin,if_neg (by simp)]
     clear hin HU2;cases hbr:x.xX
     . rw [hbr] at k12
       have HU4:Hid (dm x ms ds s zs=if x.seq=60000∨59990<=x.gen then 7 else 0):=by unfold Hid;rw [HU3.out,hbr,if_neg (by simp)]
       clear hbr HU3;by_cases hq:x.seq=60000
       . have HV:Hid (dm x ms ds s zs=7):=by unfold Hid;rw [HU4.out,if_pos (.inl hq)]
         have e1:(x.seq==60000)=true:=by simpa using hq
         have e2:decide (60000<=x.seq)=true:=by simp;omega
         have e3:60000<=x.seq:=by omega
         clear hq;have HB:=aa B4;clear B4;go_wp2
         go_ret
         exact ⟨aF HV.out.symm,HB.out⟩
       have e1:(x.seq==60000)=false:=by simpa using hq
       have e2:¬60000<=x.seq:=by omega
       have e3:decide (60000<=x.seq)=false:=by simp;omega
       by_cases hgn:59990<=x.gen
       . have HV:Hid (dm x ms ds s zs=7):=by unfold Hid;rw [HU4.out,if_pos (.inr hgn)]
         clear hq;have HB:=aa B4;clear B4;go_wp2
         go_ret
         exact ⟨aF HV.out.symm,HB.out⟩
       have HV:Hid (dm x ms ds s zs=0):=by unfold Hid;rw [HU4.out,if_neg (fun h=>h.elim hq hgn)]
       clear hq;have HB:=aa B4;clear B4;go_wp2
       go_ret
       exact ⟨aF HV.out.symm,HB.out⟩
     rw [hbr] at k12;have HV:Hid (dm x ms ds s zs=5):=by unfold Hid;rw [HU3.out,hbr,if_pos rfl]
     clear hbr;have HB:=aa B4;clear B4;go_wp2
     go_ret
     exact ⟨aF HV.out.symm,HB.out⟩
   rw [hdn] at k11;have HV:Hid (dm x ms ds s zs=6):=by unfold Hid;rw [HU.out,hdn,if_pos rfl]
   clear hdn;have HB:=aa B3;clear B3;go_wp2
   go_ret
   exact ⟨aF HV.out.symm,HB.out⟩
 have hne:((zs.length:Int) !=x.n-1)=true:=by simpa using hzl
 have HV:Hid (dm x ms ds s zs=1):=by unfold Hid dm;rw [ha,decide_eq_false hzl,Bool.false_and,Bool.and_false,if_pos rfl]
 clear hzl;have X2:=X1;have q5:=p5;have B2:=B1;clear X1 p5 B1;clear ha;have HB:=aa B2;clear B2;go_wp2
 go_ret
 exact ⟨aF HV.out.symm,HB.out⟩
theorem bD {x:aq} {ms:List ai} {ds:List (Int×List Int)}:bf x ms ds=true ↔ bL x.n x.s=true/\inB x.id 1 60000=true/\cI x ms=true/\ey x ds=true/\dU x=true/\ez x=true:=by
 unfold bf;simp only [Bool.and_eq_true]
theorem eg {x:aq} {ms:List ai}:cI x ms=true ↔ (∀(i:Nat) (d:ai),ms[i]?=some d->bF d.1 d.2.1 d.2.2.2=true/\(d.1.length:Int)=6+x.s/\(d.2.2.1=true->(i:Int)=x.lost∨x.xX=true))/\(ms.length:Int)=x.n:=by
 unfold cI;rw [Bool.and_eq_true,dR,decide_eq_true_eq];refine and_congr_left fun _=>?_
 constructor
 . intro h i d hd
   have:=h i d hd;unfold dH at this;simp only [Bool.and_eq_true,decide_eq_true_eq,Bool.or_eq_true,Bool.not_eq_true'] at this
   refine ⟨this.1,this.2.1,fun hf=>?_⟩
   rcases this.2.2 with h|h|h
   . rw [hf] at h;cases h
   . exact .inl h
   exact .inr h
 intro h i d hd;obtain ⟨h1,h2,h3⟩:=h i d hd;unfold dH;simp only [Bool.and_eq_true,decide_eq_true_eq,Bool.or_eq_true,Bool.not_eq_true']
 refine ⟨h1,h2,?_⟩
 cases hf:d.2.2.1
 . exact .inl rfl
 exact .inr (h3 hf)
theorem gl {x:aq}:ez x=true ↔ (0<=x.tail/\x.tail<=60000)/\(x.tail<=x.seq/\x.seq<=60000)/\x.seq<=x.tail+4/\(0<=x.gen/\x.gen<=60000)/\-1<=x.xY/\x.xY<=1000:=by
 unfold ez;simp only [Bool.and_eq_true,aG,decide_eq_true_eq]
theorem uW {ss:List (List Int)} {cs:List (Int×List Int)} {bs:List Int} (h:bF ss cs bs=true):bF ss [] bs=true:=by
 rw [eB] at h ⊢;exact ⟨h.1,by simp,h.2.2.1,h.2.2.2.1,by simp⟩
theorem oC {x x':aq} {ms:List ai} {m:Nat} {d:ai} (h:cI x ms=true) (hn:x'.n=x.n) (hs:x'.s=x.s) (hd:bF d.1 d.2.1 d.2.2.2=true) (hl:(d.1.length:Int)=6+x.s) (hf:d.2.2.1=true->(m:Int)=x'.lost∨x'.xX=true)
 (ho:∀(i:Nat) (e:ai),i≠m->ms[i]?=some e->e.2.2.1=true->(i:Int)=x'.lost∨x'.xX=true):cI x' (ms.set m d)=true:=by
 rw [eg] at h ⊢;refine ⟨fun i e he=>?_,by rw [List.length_set,hn];exact h.2⟩
 by_cases him:m=i
 . subst him
   have hi:m<ms.length:=by have:=(List.getElem?_eq_some_iff.1 he).1;simpa using this
   rw [List.getElem?_set_self hi] at he;cases he;exact ⟨hd,by rw [hs];exact hl,hf⟩
 rw [List.getElem?_set_ne him] at he;obtain ⟨a1,a2,a3⟩:=h.1 i e he;exact ⟨a1,by rw [hs];exact a2,ho i e (fun e=>him e.symm) he⟩
end Go.Proofs.YtgjomldcnjjpaaaGreat

/-
 What WriteStripe makes of an array, whatever it is: plain lemmas. No condition.
-/
import Derived.Test.YtejeekndbnpmoaaGreatRowWritesBentSq2
import Derived.Test.YtejeekndbnpmoaaGreatRowWritesBentSq1
import Derived.Test.YtejeekndbnpmoaaGreatRows
import Derived.Test.YtejeekndbnpmoaaGreatRowWritesBentSq10
import Derived.Test.YtejeekndbnpmoaaGreatRowWritesBentSq4
import Derived.Test.YtejeekndbnpmoaaGreatRowWritesBentSq3
import Derived.Laws.IdiomCopy
import Derived.Laws.MakeOwn

set_option maxRecDepth 100000
set_option maxHeartbeats 8000000
set_option linter.unusedSimpArgs false

namespace Go.Proofs.YtejeekndbnpmoaaGreat
open Go.RowKit

theorem lU {n s t:Int}:bG n s t=true ↔ bF n s=true/\0<=t/\t<=s-1:=by unfold bG;rw [Bool.and_eq_true,aI]
theorem de (w:World) (n s:Int):Calls Tryz.prog 183 #[.agg #[.int .i64 n,.int .i64 s]] w fun e w'=>e=.returned (.int .i64 (aX n s))/\Below w.heap.size w w':=by
 have hA:=ae w (.cells #[.int .i64 n,.int .i64 s] 25);have X:=bL.new w 25 n s;obtain ⟨k0,k1⟩:=X.cells;have zA:=X.lt;go_enter Tryz.func183,Tryz.ntmps183
 go_wp2_with fail
 refine (dX _ _ _).mono ?_
 rintro e w1 ⟨rfl,b1⟩;have X1:=X.below b1 zA;obtain ⟨p0,p1⟩:=X1.cells;have B1:=Below.andThen hA b1;clear k0 k1 X b1 hA zA;by_cases hg:bF n s=true
 . obtain ⟨h1,h2,h3,h4⟩:=aB.1 hg
   have hm:=iN hg;have HB:=aa (fU hg);have gw:IntKind.i64.wrap (s*(n-1))=s*(n-1):=IntWalk.i64_in _ (by omega);go_wp2
   go_ret
   exact ⟨aG HB.out.symm,B1⟩
 have hg:bF n s=false:=by simpa using hg
 go_wp2
 go_ret
 exact ⟨aG (fh hg).symm,B1⟩
theorem jQ (w:World) (n s t:Int):Calls Tryz.prog 258 #[.agg #[.int .i64 n,.int .i64 s],.int .i64 t] w fun e w'=>e=.returned (.bool (bG n s t))/\Below w.heap.size w w':=by
 have hA:=ae w (.cells #[.int .i64 n,.int .i64 s] 25);have X:=bL.new w 25 n s;obtain ⟨k0,k1⟩:=X.cells;have zA:=X.lt;go_enter Tryz.func258,Tryz.ntmps258
 go_wp2_with fail
 refine (dX _ _ _).mono ?_
 rintro e w1 ⟨rfl,b1⟩;have X1:=X.below b1 zA;obtain ⟨p0,p1⟩:=X1.cells;have B1:=Below.andThen hA b1;clear k0 k1 X b1 hA zA;by_cases hg:bF n s=true
 . obtain ⟨h1,h2,h3,h4⟩:=aB.1 hg
   go_wp2_with fail
   refine (aE _ _ _ _).mono ?_
   rintro e w2 ⟨rfl,rfl⟩;go_wp2
   go_ret
   exact ⟨ag (by unfold bG;rw [hg];rfl),B1⟩
 have hg:bF n s=false:=by simpa using hg
 go_wp2
 go_ret
 exact ⟨ag (by unfold bG;rw [hg];rfl),B1⟩
theorem hY (w:World) (n s t:Int):Calls Tryz.prog 222 #[.agg #[.int .i64 n,.int .i64 s],.int .i64 t] w fun e w'=>e=.returned (.int .i64 (bX n s t))/\Below w.heap.size w w':=by
 have hA:=ae w (.cells #[.int .i64 n,.int .i64 s] 25);have X:=bL.new w 25 n s;obtain ⟨k0,k1⟩:=X.cells;have zA:=X.lt;go_enter Tryz.func222,Tryz.ntmps222
 go_wp2_with fail
 refine (jQ _ _ _ _).mono ?_
 rintro e w1 ⟨rfl,b1⟩;have X1:=X.below b1 zA;obtain ⟨p0,p1⟩:=X1.cells;have B1:=Below.andThen hA b1;clear k0 k1 X b1 hA zA;by_cases hg:bG n s t=true
 . obtain ⟨hg1,h1,h2⟩:=lU.1 hg
   obtain ⟨g1,g2,g3,g4⟩:=aB.1 hg1;have hm1:0<=t % n:=Int.emod_nonneg _ (by omega);have hm2:t % n<n:=Int.emod_lt_of_pos _ (by omega);have HB:Hid (bX n s t=n-1-t % n):=by unfold Hid bX;rw [if_pos hg]
   go_wp2_with fail
   go_quiet (fail)
   go_wp2
   go_ret
   exact ⟨aG (by rw [HB.out]),Below.andSame B1 ((aN.refl _).drewN _)⟩
 have hg':bG n s t=false:=by simpa using hg
 go_wp2
 go_ret
 exact ⟨aG (by unfold bX;rw [if_neg hg]),B1⟩
theorem lV (w:World) (n s t i:Int):Calls Tryz.prog 232 #[.agg #[.int .i64 n,.int .i64 s],.int .i64 t,.int .i64 i] w fun e w'=>e=.returned (.int .i64 (fa n s t i))/\Below w.heap.size w w':=by
 have hA:=ae w (.cells #[.int .i64 n,.int .i64 s] 25);have X:=bL.new w 25 n s;obtain ⟨k0,k1⟩:=X.cells;have zA:=X.lt;go_enter Tryz.func232,Tryz.ntmps232
 go_wp2_with fail
 refine (jQ _ _ _ _).mono ?_
 rintro e w1 ⟨rfl,b1⟩;have X1:=X.below b1 zA;have B1:=Below.andThen hA b1;clear k0 k1 X b1 hA zA;obtain ⟨k0,k1⟩:=X1.cells;by_cases hs:bG n s t=true
 . obtain ⟨hg,h1,h2⟩:=lU.1 hs
   obtain ⟨g1,g2,g3,g4⟩:=aB.1 hg;go_wp2_with fail
   refine (aE _ _ _ _).mono ?_
   rintro e w2 ⟨rfl,rfl⟩;by_cases hi:inB i 0 (n-2)=true
   . obtain ⟨h3,h4⟩:=aI.1 hi
     have hm1:0<=t % n:=Int.emod_nonneg _ (by omega);have hm2:t % n<n:=Int.emod_lt_of_pos _ (by omega);have HP:bX n s t=n-1-t % n:=by unfold bX;rw [if_pos hs]
     have HPar:∀W:World,Calls Tryz.prog 222 #[.agg #[.int .i64 n,.int .i64 s],.int .i64 t] W fun e w'=>e=.returned (.int .i64 (n-1-t % n))/\Below W.heap.size W w':=by
      intro W;rw [←HP];exact hY _ _ _ _
     have HD:Hid (fa n s t i=(n-1-t % n+1+i) % n):=by unfold Hid fa fC;rw [hs,hi];rfl
     clear HP;generalize t % n=r at hm1 hm2 HPar HD;have e1:¬n=0:=by omega
     have e2:(n-1-r+1+i).tmod n=(n-1-r+1+i) % n:=Int.tmod_eq_emod_of_nonneg (by omega);have e3:IntKind.i64.wrap (n-1-r+1)=n-1-r+1:=IntWalk.i64_in _ (by omega);have e4:IntKind.i64.wrap (n-1-r+1+i)=n-1-r+1+i:=IntWalk.i64_in _ (by omega);go_wp2_with fail
     go_region_held3 (fun w'=>w'.cell? ⟨w.heap.size,0,none⟩=some (.int .i64 n)/\w'.cell? ⟨w.heap.size,1,none⟩=some (.int .i64 s))
      (first|(exact X2.cells)|(exact X1.cells)|go_keep)
      (first
       | (go_at_call 222;refine (HPar _).mono ?_;rintro e w2 ⟨rfl,b2⟩;have B2:=Below.andThen B1.drew b2;have X2:=X1.drew.below b2 X1.lt))
     go_wp2
     go_ret
     exact ⟨aG HD.out.symm,B2⟩
   have hi':inB i 0 (n-2)=false:=by simpa using hi
   go_wp2
   go_ret
   exact ⟨aG (by unfold fa fC;rw [hs,hi'];rfl),B1⟩
 have hs':bG n s t=false:=by simpa using hs
 go_wp2
 go_ret
 exact ⟨aG (by unfold fa fC;rw [hs'];rfl),B1⟩
theorem kW {n s b:Int} (h:cl n s b=true):bF n s=true/\0<=b/\b<aX n s:=by
 unfold cl at h;rw [aI] at h;by_cases hg:bF n s=true
 . exact ⟨hg,by omega,by omega⟩
 rw [fh (by simpa using hg)] at h;omega
theorem kA (w:World) (n s b:Int):Calls Tryz.prog 113 #[.agg #[.int .i64 n,.int .i64 s],.int .i64 b] w fun e w'=>e=.returned (.int .i64 (bC n s b))/\Below w.heap.size w w':=by
 have hA:=ae w (.cells #[.int .i64 n,.int .i64 s] 25);have X:=bL.new w 25 n s;obtain ⟨k0,k1⟩:=X.cells;have zA:=X.lt;have hr:=eU n s;have HR:Hid (inB b 0 (aX n s-1)=cl n s b):=rfl;go_enter Tryz.func113,Tryz.ntmps113
 go_wp2_with fail
 refine (de _ _ _).mono ?_
 rintro e w1 ⟨rfl,b1⟩;have X1:=X.below b1 zA;have B1:=Below.andThen hA b1;clear k0 k1 X b1 hA zA;obtain ⟨k0,k1⟩:=X1.cells;go_wp2_with fail
 refine (aE _ _ _ _).mono ?_
 rintro e w2 ⟨rfl,rfl⟩;rw [HR.out];by_cases hb:cl n s b=true
 . obtain ⟨hg,h0,h1⟩:=kW hb
   obtain ⟨g1,g2,g3,g4⟩:=aB.1 hg;have HS:Hid (bC n s b=b / (n-1)):=by unfold Hid bC;rw [if_pos hb]
   have d1:0<=b / (n-1):=Int.ediv_nonneg (by omega) (by omega);have d2:b / (n-1)<=b:=Int.ediv_le_self _ (by omega);have e1:¬n-1=0:=by omega
   have e2:IntKind.i64.wrap (b.tdiv (n-1))=b / (n-1):=by rw [Int.tdiv_eq_ediv_of_nonneg h0];exact IntWalk.i64_in _ (by omega)
   go_wp2
   go_ret
   exact ⟨aG HS.out.symm,B1⟩
 have hb':cl n s b=false:=by simpa using hb
 go_wp2
 go_ret
 exact ⟨aG (by unfold bC;rw [if_neg hb]),B1⟩
theorem lu (w:World) (n s b:Int):Calls Tryz.prog 114 #[.agg #[.int .i64 n,.int .i64 s],.int .i64 b] w fun e w'=>e=.returned (.int .i64 (cS n s b))/\Below w.heap.size w w':=by
 have hA:=ae w (.cells #[.int .i64 n,.int .i64 s] 25);have X:=bL.new w 25 n s;obtain ⟨k0,k1⟩:=X.cells;have zA:=X.lt;have hr:=eU n s;have HR:Hid (inB b 0 (aX n s-1)=cl n s b):=rfl;go_enter Tryz.func114,Tryz.ntmps114
 go_wp2_with fail
 refine (de _ _ _).mono ?_
 rintro e w1 ⟨rfl,b1⟩;have X1:=X.below b1 zA;have B1:=Below.andThen hA b1;clear k0 k1 X b1 hA zA;obtain ⟨k0,k1⟩:=X1.cells;go_wp2_with fail
 refine (aE _ _ _ _).mono ?_
 rintro e w2 ⟨rfl,rfl⟩;rw [HR.out];by_cases hb:cl n s b=true
 . obtain ⟨hg,h0,h1⟩:=kW hb
   obtain ⟨g1,g2,g3,g4⟩:=aB.1 hg;have HS:Hid (cS n s b=b % (n-1)):=by unfold Hid cS;rw [if_pos hb]
   have e1:¬n-1=0:=by omega
   have e3:b.tmod (n-1)=b % (n-1):=Int.tmod_eq_emod_of_nonneg h0;go_wp2
   go_ret
   exact ⟨aG HS.out.symm,B1⟩
 have hb':cl n s b=false:=by simpa using hb
 go_wp2
 go_ret
 exact ⟨aG (by unfold cS;rw [if_neg hb]),B1⟩
def fI (l:List Int):Int:=l.foldl (fun n x=>bits BinOp.xor IntKind.i64 n x) 0
theorem nZ {zs:List Int} {j:Nat} {x:Int} (h:j<zs.length) (hx:zs.getD j 0=x):bits BinOp.xor IntKind.i64 (fI (zs.take j)) x=fI (zs.take (j+1)):=by
 have e:zs[j]=x:=by rw [←hx];simp [List.getElem?_eq_getElem h]
 unfold fI;rw [List.take_succ_eq_append_getElem h,List.foldl_append,e];rfl
def bv (n:Int):BitVec 64:=BitVec.ofInt 64 n
def ofBv (v:BitVec 64):Int:=IntKind.i64.wrap (v.toNat:Int)
theorem xor_bv (a b:Int):bits BinOp.xor IntKind.i64 a b=ofBv (bv a ^^^ bv b):=rfl
def ge (zs:List Int) (k:Int) (j:Nat):Int:=(List.range j).foldl (fun (n:Int) (i:Nat)=>if (i:Int)=k then n else bits BinOp.xor IntKind.i64 n (zs.getD i 0)) 0
theorem lW (zs:List Int) (k:Int) (j:Nat):ge zs k (j+1)=if (j:Int)=k then ge zs k j else bits BinOp.xor IntKind.i64 (ge zs k j) (zs.getD j 0):=by
 unfold ge;rw [List.range_succ,List.foldl_append];rfl
theorem nt (w:World) (a:Option Addr) (len cap:Nat) (zs:List Int) (hz:zs.length=len) (hr:aK .i64 w a zs) (hlen:len<=2097152):
 Calls Tryz.prog 259 #[.slice a len cap] w fun e w'=>e=.returned (.int .i64 (fI zs))/\aN w w':=by
 go_enter Tryz.func259,Tryz.ntmps259
 go_wp2
 go_loop [3,4] (fun n i=>∃j:Nat,j<=len/\i=.int .i64 j/\n=.int .i64 (fI (zs.take j))) (fun _ i=>len-(intOf i).toNat)
 case atStart=>exact ⟨0,Nat.zero_le _,rfl,rfl⟩
 obtain ⟨j,hj,rfl,rfl⟩:=hrel;by_cases hlt:j<len
 . rcases hr.cases with h0|⟨b,off,rfl,hbl,hc⟩
   . omega
   have hc1:=hc j (by omega);have HX:Hid (bits BinOp.xor IntKind.i64 (fI (zs.take j)) (zs.getD j 0)=fI (zs.take (j+1))):=nZ (by omega) rfl;generalize zs.getD j 0=x at hc1 HX;clear hc;go_wp2
   go_round
   case rel=>exact ⟨j+1,by omega,by go_num,by rw [HX.out]⟩
   case measure=>simp [intOf];omega
 go_wp2
 go_ret
 have e:j=len:=by omega
 subst e;exact ⟨aG (by rw [List.take_of_length_le (by omega)]),aN.refl _⟩
theorem nu (w:World) (a:Option Addr) (len cap:Nat) (zs:List Int) (hz:zs.length=len) (hr:aK .i64 w a zs) (hlen:len<=2097152):
 Calls Tryz.prog 14 #[.slice a len cap] w fun e w'=>e=.returned (.int .i64 (fI zs))/\aN w w':=by
 go_enter Tryz.func14,Tryz.ntmps14
 go_wp2
 go_loop [3,8] (fun n i=>∃j:Nat,j<=len/\i=.int .i64 j/\n=.int .i64 (fI (zs.take j))) (fun _ i=>len-(intOf i).toNat)
 case atStart=>exact ⟨0,Nat.zero_le _,rfl,rfl⟩
 obtain ⟨j,hj,rfl,rfl⟩:=hrel;by_cases hlt:j<len
 . rcases hr.cases with h0|⟨b,off,rfl,hbl,hc⟩
   . omega
   have hc1:=hc j (by omega);have HX:Hid (bits BinOp.xor IntKind.i64 (fI (zs.take j)) (zs.getD j 0)=fI (zs.take (j+1))):=nZ (by omega) rfl;generalize zs.getD j 0=x at hc1 HX;clear hc;go_wp2
   go_round
   case rel=>exact ⟨j+1,by omega,by go_num,by rw [HX.out]⟩
   case measure=>simp [intOf];omega
 go_wp2
 go_ret
 have e:j=len:=by omega
 subst e;exact ⟨aG (by rw [List.take_of_length_le (by omega)]),aN.refl _⟩
theorem jz (w:World) (a:Option Addr) (len cap:Nat) (zs:List Int) (hz:zs.length=len) (hr:aK .i64 w a zs) (hlen:len<=2097152):
 Calls Tryz.prog 16 #[.slice a len cap] w fun e w'=>e=.returned (.int .i64 (fI zs))/\aN w w':=by
 go_enter Tryz.func16,Tryz.ntmps16
 go_wp2_with fail
 refine (nu _ _ _ _ zs hz hr hlen).mono ?_
 rintro e w1 ⟨rfl,hs⟩;go_wp2
 go_ret
 exact ⟨rfl,hs⟩
theorem jA (w:World) (a:Option Addr) (len cap:Nat) (zs:List Int) (hz:zs.length=len) (hr:aK .i64 w a zs) (hlen:len<=2097152):
 Calls Tryz.prog 223 #[.slice a len cap] w fun e w'=>e=.returned (.int .i64 (fI zs))/\aN w w':=by
 go_enter Tryz.func223,Tryz.ntmps223
 go_wp2_with fail
 refine (nt _ _ _ _ zs hz hr hlen).mono ?_
 rintro e w1 ⟨rfl,hs⟩;go_wp2
 go_ret
 exact ⟨rfl,hs⟩
theorem jp (w:World) (a:Option Addr) (len cap:Nat) (zs:List Int) (k:Int) (hz:zs.length=len) (hr:aK .i64 w a zs) (hlen:len<=2097152):
 Calls Tryz.prog 249 #[.slice a len cap,.int .i64 k] w fun e w'=>e=.returned (.int .i64 (ge zs k len))/\aN w w':=by
 go_enter Tryz.func249,Tryz.ntmps249
 go_wp2
 go_loop [5,6] (fun n i=>∃j:Nat,j<=len/\i=.int .i64 j/\n=.int .i64 (ge zs k j)) (fun _ i=>len-(intOf i).toNat)
 case atStart=>exact ⟨0,Nat.zero_le _,rfl,rfl⟩
 obtain ⟨j,hj,rfl,rfl⟩:=hrel;by_cases hlt:j<len
 . have hs:=lW zs k j
   by_cases hk:(j:Int)=k
   . have hkb:((j:Int)==k)=true:=by simpa using hk
     have HX:Hid (ge zs k (j+1)=ge zs k j):=by unfold Hid;rw [hs,if_pos hk]
     clear hs;go_wp2
     go_round
     case rel=>exact ⟨j+1,by omega,by go_num,by rw [HX.out]⟩
     case measure=>simp [intOf];omega
   have hkb:((j:Int)==k)=false:=by simpa using hk
   have HX:Hid (ge zs k (j+1)=bits BinOp.xor IntKind.i64 (ge zs k j) (zs.getD j 0)):=by unfold Hid;rw [hs,if_neg hk]
   clear hs;rcases hr.cases with h0|⟨b,off,rfl,hbl,hc⟩
   . omega
   have hc1:=hc j (by omega);generalize zs.getD j 0=x at hc1 HX;clear hc;go_wp2
   go_round
   case rel=>exact ⟨j+1,by omega,by go_num,by rw [HX.out]⟩
   case measure=>simp [intOf];omega
 go_wp2
 go_ret
 have e:j=len:=by omega
 subst e;exact ⟨rfl,aN.refl _⟩
def cD (x:Int):Int:=if 0<=x then 2+x % 4 else -1
def bV (x:Int):Int:=if 0<=x/\x<=1099511627776 then x+6 else -1
theorem lX (w:World) (x:Int):Calls Tryz.prog 253 #[.int .i64 x] w fun e w'=>e=.returned (.int .i64 (cD x))/\w'=w:=by
 by_cases h:0<=x
 . have e1:x.tmod 4=x % 4:=Int.tmod_eq_emod_of_nonneg h
   have e2:IntKind.i64.wrap (x % 4)=x % 4:=IntWalk.i64_in _ (by omega);have e3:IntKind.i64.wrap (2+x % 4)=2+x % 4:=IntWalk.i64_in _ (by omega);have hv:cD x=2+x % 4:=by unfold cD;rw [if_pos h]
   go_enter Tryz.func253,Tryz.ntmps253
   go_wp2
   go_ret
   exact ⟨aG (by first|(rw [hv];done)|rfl|omega),rfl⟩
 have hv:cD x=-1:=by unfold cD;rw [if_neg h]
 go_enter Tryz.func253,Tryz.ntmps253
 go_wp2
 go_ret
 exact ⟨aG (by first|(rw [hv];done)|rfl|omega),rfl⟩
theorem lY (w:World) (x:Int):Calls Tryz.prog 220 #[.int .i64 x] w fun e w'=>e=.returned (.int .i64 (cD x))/\w'=w:=by
 by_cases h:0<=x
 . have e1:x.tmod 4=x % 4:=Int.tmod_eq_emod_of_nonneg h
   have e2:IntKind.i64.wrap (x % 4)=x % 4:=IntWalk.i64_in _ (by omega);have e3:IntKind.i64.wrap (2+x % 4)=2+x % 4:=IntWalk.i64_in _ (by omega);have hv:cD x=2+x % 4:=by unfold cD;rw [if_pos h]
   go_enter Tryz.func220,Tryz.ntmps220
   go_wp2
   go_ret
   exact ⟨aG (by first|(rw [hv];done)|rfl|omega),rfl⟩
 have hv:cD x=-1:=by unfold cD;rw [if_neg h]
 go_enter Tryz.func220,Tryz.ntmps220
 go_wp2
 go_ret
 exact ⟨aG (by first|(rw [hv];done)|rfl|omega),rfl⟩
theorem iS (w:World) (x:Int):Calls Tryz.prog 128 #[.int .i64 x] w fun e w'=>e=.returned (.int .i64 (bV x))/\w'=w:=by
 by_cases h:0<=x/\x<=1099511627776
 . have e2:IntKind.i64.wrap (x+2)=x+2:=IntWalk.i64_in _ (by omega)
   have e4:IntKind.i64.wrap (x+2+4)=x+2+4:=IntWalk.i64_in _ (by omega);have e3:IntKind.i64.wrap (6+x)=6+x:=IntWalk.i64_in _ (by omega);have hv:bV x=x+6:=by unfold bV;rw [if_pos h]
   have hi:inB x 0 1099511627776=true:=by unfold inB;simp;omega
   go_enter Tryz.func128,Tryz.ntmps128
   go_wp2_with fail
   refine (bE _ _ _ _).mono ?_
   rintro e w1 ⟨rfl,rfl⟩;rw [hi];go_wp2
   go_ret
   exact ⟨aG (by rw [hv];omega),rfl⟩
 have hv:bV x=-1:=by unfold bV;rw [if_neg h]
 have hi:inB x 0 1099511627776=false:=by unfold inB;simp;omega
 go_enter Tryz.func128,Tryz.ntmps128
 go_wp2_with fail
 refine (bE _ _ _ _).mono ?_
 rintro e w1 ⟨rfl,rfl⟩;rw [hi];go_wp2
 go_ret
 exact ⟨aG (by first|(rw [hv];done)|rfl|omega),rfl⟩
theorem cz (w:World) (x:Int):Calls Tryz.prog 134 #[.int .i64 x] w fun e w'=>e=.returned (.int .i64 (bV x))/\w'=w:=by
 by_cases h:0<=x/\x<=1099511627776
 . have e2:IntKind.i64.wrap (x+2)=x+2:=IntWalk.i64_in _ (by omega)
   have e4:IntKind.i64.wrap (x+2+4)=x+2+4:=IntWalk.i64_in _ (by omega);have e3:IntKind.i64.wrap (6+x)=6+x:=IntWalk.i64_in _ (by omega);have hv:bV x=x+6:=by unfold bV;rw [if_pos h]
   have hi:inB x 0 1099511627776=true:=by unfold inB;simp;omega
   go_enter Tryz.func134,Tryz.ntmps134
   go_wp2_with fail
   refine (aE _ _ _ _).mono ?_
   rintro e w1 ⟨rfl,rfl⟩;rw [hi];go_wp2
   go_ret
   exact ⟨aG (by rw [hv];omega),rfl⟩
 have hv:bV x=-1:=by unfold bV;rw [if_neg h]
 have hi:inB x 0 1099511627776=false:=by unfold inB;simp;omega
 go_enter Tryz.func134,Tryz.ntmps134
 go_wp2_with fail
 refine (aE _ _ _ _).mono ?_
 rintro e w1 ⟨rfl,rfl⟩;rw [hi];go_wp2
 go_ret
 exact ⟨aG (by first|(rw [hv];done)|rfl|omega),rfl⟩
def gf (n p:Int) (zs:List Int) (i:Nat):Int:=if (i:Int)=p then fI zs else zs.getD (((i:Int)-p-1+n) % n).toNat 0
def bg (q:al×List ai) (s p:Int) (zs:List Int) (j:Nat):al×List ai:=(List.range j).foldl (fun q (i:Nat)=>if cM q.1 q.2 (i:Int) s=true then fA q i (bV s) [gf q.1.n p zs i] else q) q
theorem iT (q:al×List ai) (s p:Int) (zs:List Int) (j:Nat):bg q s p zs (j+1)=if cM (bg q s p zs j).1 (bg q s p zs j).2 (j:Int) s=true then fA (bg q s p zs j) j (bV s) [gf (bg q s p zs j).1.n p zs j] else bg q s p zs j:=by unfold bg;rw [List.range_succ,List.foldl_append];rfl
theorem fJ {q:al×List ai} (s p:Int) (zs:List Int) (h:bM q.2) (hf:q.1.vI<=1000):∀j,bM (bg q s p zs j).2/\dw q.1 (bg q s p zs j).1/\(bg q s p zs j).2.length=q.2.length
 | 0=>⟨h,dw.refl hf,rfl⟩
 | j+1=>by
  obtain ⟨h1,h2,h3⟩:=fJ s p zs h hf j;rw [iT];split
  . exact ⟨oX h1,h2.trans (gc _ _ h2.2.2.2.2.2.2.2.2.2.1),by unfold fA;rw [ji];exact h3⟩
  exact ⟨h1,h2,h3⟩
theorem bM.light {ms:List ai} (h:bM ms) (hl:ms.length<=1000):aV ms<=2097152:=by
 have h1:∀x∈ms.map aQ,x<=2000:=fun x hx=>by
  obtain ⟨d,hd,rfl⟩:=List.mem_map.1 hx;obtain ⟨i,hi⟩:=List.mem_iff_getElem?.1 hd;exact du (h i d hi) d.2.2.1
 have h2:=dF (ms.map aQ) 2000 h1;rw [List.length_map] at h2;unfold aV;omega
theorem ug {n s t:Int} (hg:bF n s=true) (ht:inB t 0 (s-1)=true):0<=bX n s t/\bX n s t<n:=by
 obtain ⟨g1,g2,g3,g4⟩:=aB.1 hg;have hs:bG n s t=true:=by unfold bG;rw [hg,ht];rfl
 unfold bX;rw [if_pos hs];have h1:=Int.emod_nonneg t (show n≠0 by omega);have h2:=Int.emod_lt_of_pos t (show 0<n by omega);omega
theorem lZ (w:World) (B:Nat) (x:al) (ms:List ai) (ds:List (Int×List Int)) (fm fd:List Nat) (h:aD w B x ms ds fm fd) (hf:x.vI<=1000) (hM:bM ms) (s:Int) (ar:Option Addr) (nr cr:Nat) (zs:List Int) (fr:List Nat) (h5:aA.Mine w [.slice ar nr cr] zs fr) (h5B:B∉fr) (h5f:∀b∈fr,b∉fm) (hg:bF x.n x.s=true) (hs:inB s 0 (x.s-1)=true) (hl:(ms.length:Int)=x.n) (hz:(nr:Int)=x.n-1):
 Calls Tryz.prog 172 #[.pointer (some ⟨B,0,none⟩),.int .i64 s,.slice ar nr cr] w fun e w'=>e=.returned (.tuple #[])/\∃fm',aD w' B (bg (x,ms) s (bX x.n x.s s) zs ms.length).1 (bg (x,ms) s (bX x.n x.s s) zs ms.length).2 ds fm' fd/\aJ B fm w fm' w':=by
 have hzl:=(af h5.rd).1;obtain ⟨g1,g2,g3,g4⟩:=aB.1 hg;obtain ⟨pn0,pn1⟩:=ug hg hs;have HK:Hid (∀j,_):=fun j=>fJ (q:=(x,ms)) s (bX x.n x.s s) zs hM hf j;obtain ⟨N,hN⟩:∃N:Nat,x.n=(N:Int):=⟨x.n.toNat,by omega⟩;have hmN:ms.length=N:=by omega
 have hn5:N<=5:=by omega
 have hn3:3<=N:=by omega
 have hnr:nr+1<=N/\N<=nr+1:=by omega
 have hml:ms.length<=N/\N<=ms.length:=by omega
 have HNN:=aa hN;have hpN:bX x.n x.s s<(N:Int):=by omega
 clear hN hmN hl hz pn1;have A0:=aa h;have zB:=h.lt;have hlm:=h.ltm.1;have hlr:=h5.lt;have M5:=aa h5;have hmx:∃cm0,ms.length<=cm0/\cm0<=9223372036854775807:=by
  obtain ⟨_,_,cm0,_,_,hm0,_⟩:=h;exact ⟨cm0,(af hm0.rd).2⟩
 obtain ⟨cm0,hmx⟩:=hmx;obtain ⟨bm,bd,cm,cd,X,hmm,hdd,hr,r1,r2⟩:=h;unfold aC at X;obtain ⟨k0,k1,k2,k3,k4,k5,k6,k7,k8,k9,k10,k11,k12⟩:=X.cells13;clear X hmm hdd hr r1 r2;go_enter Tryz.func172,Tryz.ntmps172
 go_wp2_with fail
 refine (hY _ x.n x.s s).mono ?_
 rintro e W ⟨rfl,bW⟩;clear k0 k1 k2 k3 k4 k5 k6 k7 k8 k9 k10 k11 k12;generalize hp:bX x.n x.s s=p at pn0 hpN HK ⊢;have HP0:=aa hp;clear hp;have A1:=aa (A0.out.below bW);have M5W:=aa (M5.out.below bW);have BW:=aa bW;have zW:=bW.size;clear bW A0 M5;go_wp2
 go_loopw [7] (fun i wr=>∃(j:Nat) (fm1:List Nat),j<=ms.length/\i=.int .i64 j/\aD wr B (bg (x,ms) s p zs j).1 (bg (x,ms) s p zs j).2 ds fm1 fd/\aJ B fm W fm1 wr) (fun i _=>ms.length-(intOf i).toNat)
 case atStart=>exact ⟨0,fm,Nat.zero_le _,rfl,A1.out,aJ.refl _ _ _⟩
 obtain ⟨j,fm1,hj,rfl,hA,hMv⟩:=hrel;obtain ⟨hMj,hsj,hlj⟩:=HK.out j;have hfj:=hsj.2.2.2.2.2.2.2.2.2.1;have hnj:=hsj.2.1;have HS:=aa (iT (x,ms) s p zs j);generalize hst:bg (x,ms) s p zs j=st at hA hMj hsj hlj hfj hnj HS;have HST:=aa hst;clear hst;obtain ⟨y,ns⟩:=st;dsimp only at hA hMj hsj hlj hfj hnj HS
 clear hsj;have HNJ:=aa hnj;clear hnj;have HA:=aa hA;obtain ⟨bm,bd,cm,cd,X,hmm,hdd,hr,r1,r2⟩:=hA;have HL:=aa hlj;rw [hlj] at X hmm;unfold aC at X;have hwM:=hMj.light (by omega);clear hlj;have RM:=aa hmm.rd;have zr:=X.lt;have XH:=aa X;obtain ⟨k0,k1,k2,k3,k4,k5,k6,k7,k8,k9,k10,k11,k12⟩:=X.cells13;clear hmm hdd hr r1 r2 X;have m5:=hMv.mine M5W.out h5B h5f;have zw:=hMv.size;obtain ⟨rd5,_⟩:=aP m5.rd;have M5R:=aa m5;have MV:=aa hMv;clear m5 hMv;by_cases hjn:j<ms.length
 . have i2:(j:Int)<(ms.length:Int):=by omega
   have RD5:=aa rd5;go_wp2_with fail
   refine (jA _ _ _ _ zs hzl RD5.out (by omega)).mono ?_
   rintro e w1 ⟨rfl,s1⟩;have b1:=s1.below wr.heap.size;have X1:=XH.out.below b1 zr;have A2:=aa (HA.out.below b1);have R2:=aa (RM.out.below b1);have M2:=aa (M5R.out.below b1);have MV2:=aa (MV.out.below b1);have zr1:=X1.lt;have RD6:=aa (RD5.out.below b1);have z1:=b1.size;clear k0 k1 k2 k3 k4 k5 k6 k7 k8 k9 k10 k11 k12 s1 b1 XH RM M5R MV RD5 HA rd5;obtain ⟨k0,k1,k2,k3,k4,k5,k6,k7,k8,k9,k10,k11,k12⟩:=X1.cells13;by_cases hjp:(j:Int)=p
   . have e1:((j:Int)==p)=true:=by simpa using hjp
     have e2:((j:Int) !=p)=false:=by simpa using hjp
     have HDW:Hid (gf y.n p zs j=fI zs):=by unfold Hid gf;rw [if_pos hjp]
     clear hjp;generalize fI zs=v at HDW ⊢;go_wp2_with fail
     refine (fX _ 171 101 y _ _ _ _ _ _ ns (j:Int) s R2.out hwM).mono ?_
     rintro e w4 ⟨rfl,b4⟩;have A4:=aa (A2.out.below b4);have MV4:=aa (MV2.out.below b4);clear k0 k1 k2 k3 k4 k5 k6 k7 k8 k9 k10 k11 k12 b4 X1;cases hlv:cM y ns (j:Int) s
     . have HP:Hid (bg (x,ms) s p zs (j+1)=(y,ns)):=by unfold Hid;rw [HS.out,if_neg (by simp [hlv])]
       go_wp2
       go_roundw
       case rel=>exact ⟨j+1,fm1,by omega,by go_num,by rw [HP.out];exact A4.out,MV4.out⟩
       case measure=>simp [intOf];omega
     have HP:Hid (bg (x,ms) s p zs (j+1)=fA (y,ns) j (bV s) [gf y.n p zs j]):=by unfold Hid;rw [HS.out,if_pos hlv]
     rw [HDW.out] at HP;go_wp2_with fail
     refine (cz _ _).mono ?_
     rintro e w5 ⟨rfl,h5w⟩;subst h5w;have b5:=ae w5 (.cells #[.int .i64 v] 3);have A5:=aa (A4.out.below b5);have MV5:=aa (MV4.out.below b5);have LT:=aa A4.out.ltm;have zB4:=A4.out.lt;obtain ⟨fp5,m5,r5⟩:=(aR (bj.lit .i64 3 w5 [v] 1 #[.int .i64 v] rfl rfl (by unfold maxLen;omega))).mine;have M5:=aa m5;have R5:=aa r5;clear m5 r5 b5;go_wp2_with fail
     refine (hU _ B y ns ds fm1 fd A5.out hfj hMj j (by have:=HL.out;omega) _ _ _ _ [v] fp5 M5.out (fun hm=>by have:=R5.out _ hm;omega) (fun b hb hm=>by have h1:=R5.out b hb;have h2:=LT.out.1 b hm;omega) (by omega)).mono ?_
     rintro e w6 ⟨rfl,fm3,hA3,hMv3⟩;have HA3:Hid (aD w6 B (bg (x,ms) s p zs (j+1)).1 (bg (x,ms) s p zs (j+1)).2 ds fm3 fd):=by unfold Hid;rw [HP.out];exact hA3
     have HM3:=aa (MV5.out.trans hMv3);clear hA3 hMv3;go_wp2
     go_roundw
     case rel=>exact ⟨j+1,fm3,by omega,by go_num,HA3.out,HM3.out⟩
     case measure=>simp [intOf];omega
   have e1:((j:Int)==p)=false:=by simpa using hjp
   have e2:((j:Int) !=p)=true:=by simpa using hjp
   have hyN:y.n=(N:Int):=HNJ.out.trans HNN.out;obtain ⟨Q,hQ⟩:∃Q:Nat,((j:Int)-p-1+(N:Int)) % (N:Int)=(Q:Int):=⟨(((j:Int)-p-1+(N:Int)) % (N:Int)).toNat,by have:=Int.emod_nonneg ((j:Int)-p-1+(N:Int)) (show (N:Int)≠0 by omega);omega⟩;have hQlt:Q<nr:=by
    have h1:=Int.emod_lt_of_pos ((j:Int)-p-1+(N:Int)) (show (0:Int)<(N:Int) by omega);by_cases hc:(j:Int)<p
    . rw [Int.emod_eq_of_lt (by omega) (by omega)] at hQ;omega
    rw [show (j:Int)-p-1+(N:Int)=((j:Int)-p-1)+(N:Int)*1 by omega,Int.add_mul_emod_self_left,Int.emod_eq_of_lt (by omega) (by omega)] at hQ;omega
   have HDW:Hid (gf y.n p zs j=zs.getD Q 0):=by unfold Hid gf;rw [if_neg hjp,hyN,hQ,Int.toNat_natCast]
   rw [hyN] at k1;have w1a:IntKind.i64.wrap ((j:Int)-p)=(j:Int)-p:=IntWalk.i64_in _ (by omega);have w1b:IntKind.i64.wrap ((j:Int)-p-1)=(j:Int)-p-1:=IntWalk.i64_in _ (by omega);have w1c:IntKind.i64.wrap ((j:Int)-p-1+(N:Int))=(j:Int)-p-1+(N:Int):=IntWalk.i64_in _ (by omega);have w1d:((j:Int)-p-1+(N:Int)).tmod (N:Int)=(Q:Int):=by rw [Int.tmod_eq_emod_of_nonneg (by omega),hQ]
   have w1e:¬(N:Int)=0:=by omega
   have w1f:¬N=0:=by omega
   have w1g:IntKind.i64.wrap (Q:Int)=(Q:Int):=IntWalk.i64_in _ (by omega);have q1:(0:Int)<=(Q:Int):=by omega
   have q2:(Q:Int)<(nr:Int):=by omega
   rcases RD6.out.cases with hn0|⟨b,off,rfl,hbl,hcs⟩
   . omega
   have hcq:=hcs Q (by omega);generalize zs.getD Q 0=v at HDW hcq ⊢;clear hQ hjp hcs hyN;go_wp2_with fail
   refine wp_region_held_drew (S:=fun w'=>w'.cell? ⟨B,1,none⟩=some (.int .i64 (N:Int))/\w'.cell? ⟨b,off+Q,none⟩=some (.int .i64 v)) (by kernel_rfl) ?_ (fun vF=>?_)
   . exact ⟨k1,hcq⟩
   refine ab 0 vF ?_
   refine ab 1 vF ?_
   refine ab 2 vF ?_
   refine ab 3 vF ?_
   refine ab 4 vF ?_
   refine ab 5 vF ?_
   refine ab 6 vF ?_
   refine ab 7 vF ?_
   refine ab 8 vF ?_
   refine ab 9 vF ?_
   refine ab 10 vF ?_
   refine ab 11 vF ?_
   refine ab 12 vF ?_
   refine ab 13 vF ?_
   refine ab 14 vF ?_
   refine ab 15 vF ?_
   refine ab 16 vF ?_
   refine ab 17 vF ?_
   refine ab 18 vF ?_
   refine ab 19 vF ?_
   refine wpAnyH_done (by kernel_rfl) ?_ _
   clear vF;have X3:=X1.below ((Below.refl w1.heap.size w1).drew) zr1;have A3:=aa A2.out.drew;have R3:=aa R2.out.drew;have MV3:=aa MV2.out.drew;clear k0 k1 k2 k3 k4 k5 k6 k7 k8 k9 k10 k11 k12 hcq;obtain ⟨k0,k1,k2,k3,k4,k5,k6,k7,k8,k9,k10,k11,k12⟩:=X3.cells13;go_wp2_with fail
   refine (fX _ 171 101 y _ _ _ _ _ _ ns (j:Int) s R3.out hwM).mono ?_
   rintro e w4 ⟨rfl,b4⟩;have A4:=aa (A3.out.below b4);have MV4:=aa (MV3.out.below b4);clear k0 k1 k2 k3 k4 k5 k6 k7 k8 k9 k10 k11 k12 b4 X1;cases hlv:cM y ns (j:Int) s
   . have HP:Hid (bg (x,ms) s p zs (j+1)=(y,ns)):=by unfold Hid;rw [HS.out,if_neg (by simp [hlv])]
     go_wp2
     go_roundw
     case rel=>exact ⟨j+1,fm1,by omega,by go_num,by rw [HP.out];exact A4.out,MV4.out⟩
     case measure=>simp [intOf];omega
   have HP:Hid (bg (x,ms) s p zs (j+1)=fA (y,ns) j (bV s) [gf y.n p zs j]):=by unfold Hid;rw [HS.out,if_pos hlv]
   rw [HDW.out] at HP;go_wp2_with fail
   refine (cz _ _).mono ?_
   rintro e w5 ⟨rfl,h5w⟩;subst h5w;have b5:=ae w5 (.cells #[.int .i64 v] 3);have A5:=aa (A4.out.below b5);have MV5:=aa (MV4.out.below b5);have LT:=aa A4.out.ltm;have zB4:=A4.out.lt;obtain ⟨fp5,m5,r5⟩:=(aR (bj.lit .i64 3 w5 [v] 1 #[.int .i64 v] rfl rfl (by unfold maxLen;omega))).mine;have M5:=aa m5;have R5:=aa r5;clear m5 r5 b5;go_wp2_with fail
   refine (hU _ B y ns ds fm1 fd A5.out hfj hMj j (by have:=HL.out;omega) _ _ _ _ [v] fp5 M5.out (fun hm=>by have:=R5.out _ hm;omega) (fun b hb hm=>by have h1:=R5.out b hb;have h2:=LT.out.1 b hm;omega) (by omega)).mono ?_
   rintro e w6 ⟨rfl,fm3,hA3,hMv3⟩;have HA3:Hid (aD w6 B (bg (x,ms) s p zs (j+1)).1 (bg (x,ms) s p zs (j+1)).2 ds fm3 fd):=by unfold Hid;rw [HP.out];exact hA3
   have HM3:=aa (MV5.out.trans hMv3);clear hA3 hMv3;go_wp2
   go_roundw
   case rel=>exact ⟨j+1,fm3,by omega,by go_num,HA3.out,HM3.out⟩
   case measure=>simp [intOf];omega
 have ej:j=ms.length:=by omega
 subst ej;have HMV:=aa (((aJ.refl B fm w).below BW.out).trans MV.out);go_wp2
 refine bodyPost_end (v:=.tuple #[]) (results_none rfl _ _ _) rfl ?_
 exact ⟨rfl,fm1,by rw [HP0.out,HST.out];exact HA.out,HMV.out⟩
def iu (x y:Int) (zs:List Int):Bool:=inB x 0 60000&&(inB y 0 7&&(inB (zs.length:Int) 2 4&&cG zs))
theorem uh {x y:Int} {zs:List Int} (h:inB x 0 60000=false):iu x y zs=false:=by unfold iu;rw [h];rfl
theorem ui {x y:Int} {zs:List Int} (h:inB y 0 7=false):iu x y zs=false:=by unfold iu;rw [h];simp
theorem uj {x y:Int} {zs:List Int} (h:inB (zs.length:Int) 2 4=false):iu x y zs=false:=by unfold iu;rw [h];simp
theorem uk {x y:Int} {zs:List Int} (h1:inB x 0 60000=true) (h2:inB y 0 7=true) (h3:inB (zs.length:Int) 2 4=true):iu x y zs=cG zs:=by unfold iu;rw [h1,h2,h3];rfl
theorem sm {x y:Int} {zs:List Int}:iu x y zs=true ↔ (0<=x/\x<=60000)/\(0<=y/\y<=7)/\(2<=zs.length/\zs.length<=4)/\cG zs=true:=by
 unfold iu inB;simp only [Bool.and_eq_true,decide_eq_true_eq]
 constructor
 . rintro ⟨h1,h2,h3,h4⟩
   exact ⟨h1,h2,by omega,h4⟩
 rintro ⟨h1,h2,h3,h4⟩;exact ⟨h1,h2,by omega,h4⟩
theorem qU {zs:List Int} (h:inB (zs.length:Int) 2 4=true):da zs=cG zs:=by
 unfold inB at h;simp at h
 unfold da;rw [decide_eq_true (by omega)];rfl
theorem Box.cells3 {w:World} {B:Nat} {T:TypeId} {v0 v1 v2:Value} (h:Box w B T #[v0,v1,v2]):w.cell? ⟨B,0,none⟩=some v0/\w.cell? ⟨B,1,none⟩=some v1/\w.cell? ⟨B,2,none⟩=some v2:=⟨h.cell 0,h.cell 1,h.cell 2⟩
theorem nv (w:World) (x y:Int) (a:Option Addr) (n cap:Nat) (zs:List Int) (hz:zs.length=n) (hr:aK .i64 w a zs) (hn:n<=2097152):
 Calls Tryz.prog 257 #[.agg #[.int .i64 x,.int .i64 y,.slice a n cap]] w fun e w'=>e=.returned (.bool (iu x y zs))/\Below w.heap.size w w':=by
 have hA:=ae w (.cells #[.int .i64 x,.int .i64 y,.slice a n cap] 140);have hr':=hr.below hA;subst hz;go_enter Tryz.func257,Tryz.ntmps257
 go_wp2_with fail
 refine (aE _ _ _ _).mono ?_
 rintro e w1 ⟨rfl,rfl⟩;cases hx:inB x 0 60000
 . go_wp2
   go_ret
   exact ⟨ag (uh hx).symm,hA⟩
 go_wp2_with fail
 refine (aE _ _ _ _).mono ?_
 rintro e w1 ⟨rfl,rfl⟩;cases hy:inB y 0 7
 . go_wp2
   go_ret
   exact ⟨ag (ui hy).symm,hA⟩
 go_wp2_with fail
 refine (aE _ _ _ _).mono ?_
 rintro e w1 ⟨rfl,rfl⟩;cases hl:inB (zs.length:Int) 2 4
 . go_wp2
   go_ret
   exact ⟨ag (uj hl).symm,hA⟩
 go_wp2_with fail
 refine (dD _ _ _ _ zs rfl hr' hn).mono ?_
 rintro e w1 ⟨rfl,rfl⟩;go_wp2
 go_ret
 exact ⟨ag (uk hx hy hl).symm,hA⟩
theorem nw (w:World) (x y:Int) (a:Option Addr) (n cap:Nat) (zs:List Int) (hz:zs.length=n) (hr:aK .i64 w a zs) (hn:n<=2097152):
 Calls Tryz.prog 270 #[.agg #[.int .i64 x,.int .i64 y,.slice a n cap]] w fun e w'=>e=.returned (.bool (iu x y zs))/\Below w.heap.size w w':=by
 have hA:=ae w (.cells #[.int .i64 x,.int .i64 y,.slice a n cap] 140);have hr':=hr.below hA;subst hz;go_enter Tryz.func270,Tryz.ntmps270
 go_wp2_with fail
 refine (bE _ _ _ _).mono ?_
 rintro e w1 ⟨rfl,rfl⟩;cases hx:inB x 0 60000
 . go_wp2
   go_ret
   exact ⟨ag (uh hx).symm,hA⟩
 go_wp2_with fail
 refine (bE _ _ _ _).mono ?_
 rintro e w1 ⟨rfl,rfl⟩;cases hy:inB y 0 7
 . go_wp2
   go_ret
   exact ⟨ag (ui hy).symm,hA⟩
 go_wp2_with fail
 refine (bE _ _ _ _).mono ?_
 rintro e w1 ⟨rfl,rfl⟩;cases hl:inB (zs.length:Int) 2 4
 . go_wp2
   go_ret
   exact ⟨ag (uj hl).symm,hA⟩
 have HS:=qU hl;go_wp2_with fail
 refine (bO _ _ _ _ zs rfl hr' hn).mono ?_
 rintro e w1 ⟨rfl,hs⟩;go_wp2
 go_ret
 exact ⟨ag (uk hx hy hl).symm,Below.andSame hA hs⟩
def cutO (off n:Nat):Nat:=if n=4 then off else off+4
theorem pR (w:World) (b off n cap:Nat) (h4:4<=n) (hc:n<=cap) (hm:n<=2097152):
 Calls Tryz.prog 271 #[.slice (some ⟨b,off,none⟩) n cap] w fun e w'=>e=.returned (.tuple #[.slice (some ⟨b,off,none⟩) 4 4,.slice (some ⟨b,cutO off n,none⟩) (n-4) (n-4)])/\aN w w':=by
 unfold cutO;by_cases h:n=4
 . rw [if_pos h]
   go_enter Tryz.func271,Tryz.ntmps271
   go_wp2_with fail
   go_quiet (fail)
   go_wp2
   refine bodyPost_ret (v:=.tuple #[.slice (some ⟨b,off,none⟩) 4 4,.slice (some ⟨b,off,none⟩) 0 0]) (by simp [results,Tryz.results271,go_sem]) rfl ?_
   subst h;exact ⟨rfl,(aN.refl _).drewN _⟩
 rw [if_neg h];go_enter Tryz.func271,Tryz.ntmps271
 go_wp2_with fail
 go_quiet (fail)
 go_wp2
 refine bodyPost_ret (v:=.tuple #[.slice (some ⟨b,off,none⟩) 4 4,.slice (some ⟨b,off+4,none⟩) (n-4) (n-4)]) (by simp [results,Tryz.results271,go_sem]) rfl ?_
 exact ⟨rfl,(aN.refl _).drewN _⟩
def ep (x y:Int) (zs:List Int):List Int:=if iu x y zs=true then 21322 :: x :: y :: (zs.length:Int) :: zs else []
theorem sn {x y:Int} {zs:List Int} (h:iu x y zs=true):ep x y zs=21322 :: x :: y :: (zs.length:Int) :: zs:=by unfold ep;rw [if_pos h]
theorem pS {x y:Int} {zs:List Int} (h:iu x y zs=false):ep x y zs=[]:=by unfold ep;rw [if_neg (by simp [h])]
theorem jR {lo hi g n:Nat}:∀(us:List Int) (o:Nat) (zs:List Int) (w:World),Own .i64 3 w lo hi (.slice (some ⟨g,0,none⟩) n n) zs->o+us.length<=n ->
 Own .i64 3 (w.setCells g o (us.map (Value.int .i64))) lo hi (.slice (some ⟨g,0,none⟩) n n) (zs.take o++us++zs.drop (o+us.length))/\But lo hi w (w.setCells g o (us.map (Value.int .i64)))
 | [],o,zs,w,h,_=>⟨by simpa [World.setCells] using h,But.refl _ _ _⟩
 | u :: us,o,zs,w,h,hl=>by
  have hz:=h.length;simp only [List.length_cons] at hl
  obtain ⟨_,_,h1,b1⟩:=h.store o (by omega) u;obtain ⟨h2,b2⟩:=jR us (o+1) (zs.set o u) _ h1 (by omega);refine ⟨?_,b1.trans b2⟩
  have e:(zs.set o u).take (o+1)++us++(zs.set o u).drop (o+1+us.length)=zs.take o++(u :: us)++zs.drop (o+(u :: us).length):=by
   rw [List.drop_set,if_pos (by omega),List.take_set,List.take_succ_eq_append_getElem (by omega),List.set_append,if_neg (by simp;omega)];have:o-(zs.take o).length=0:=by simp;omega
   rw [this];simp
   omega
  rw [e] at h2;exact h2
def eF (w:World) (g:Nat) (v0 v1 v2 v3:Value):World:=(((w.setCell ⟨g,0,none⟩ v0).setCell ⟨g,1,none⟩ v1).setCell ⟨g,2,none⟩ v2).setCell ⟨g,3,none⟩ v3
theorem iw {w:World} {lo hi g n:Nat} (O:Own .i64 3 w lo hi (.slice (some ⟨g,0,none⟩) n n) (List.replicate n (0:Int))) (j:Nat) (h:j<n):w.cell? ⟨g,j,none⟩=some (.int .i64 0)/\w.frozen? ⟨g,j,none⟩=false:=by
 obtain ⟨h1,h2,_⟩:=O.store j h 0;refine ⟨?_,h2⟩
 rw [h1];simp [h]
theorem qV {w:World} {lo hi g n b off cap:Nat} {x0 x1 x2 x3:Int} {zs:List Int} (O:Own .i64 3 w lo hi (.slice (some ⟨g,0,none⟩) (4+n) (4+n)) (List.replicate (4+n) (0:Int))) (hz:zs.length=n) (r:aK .i64 w (some ⟨b,off,none⟩) zs) (hb:b<lo) (hlo:lo<=w.heap.size):
 (∀ty,(Builtin.copy_ #[31,31] ty #[.slice (some ⟨g,4,none⟩) n n,.slice (some ⟨b,off,none⟩) n cap]).run Tryz.prog (eF w g (.int .i64 x0) (.int .i64 x1) (.int .i64 x2) (.int .i64 x3))=.ok (goInt n) ((eF w g (.int .i64 x0) (.int .i64 x1) (.int .i64 x2) (.int .i64 x3)).setCells g 4 (zs.map (Value.int .i64)))) /\
 Own .i64 3 ((eF w g (.int .i64 x0) (.int .i64 x1) (.int .i64 x2) (.int .i64 x3)).setCells g 4 (zs.map (Value.int .i64))) lo hi (.slice (some ⟨g,0,none⟩) (4+n) (4+n)) (x0 :: x1 :: x2 :: x3 :: zs) /\
 But lo hi w ((eF w g (.int .i64 x0) (.int .i64 x1) (.int .i64 x2) (.int .i64 x3)).setCells g 4 (zs.map (Value.int .i64))):=by
 obtain ⟨_,_,O4,t4⟩:=O.store 0 (by omega) x0;obtain ⟨_,_,O5,t5⟩:=O4.store 1 (by omega) x1;obtain ⟨_,_,O6,t6⟩:=O5.store 2 (by omega) x2;obtain ⟨_,_,O7,t7⟩:=O6.store 3 (by omega) x3;have T:=((t4.trans t5).trans t6).trans t7;have eL:((((List.replicate (4+n) (0:Int)).set 0 x0).set 1 x1).set 2 x2).set 3 x3=x0 :: x1 :: x2 :: x3 :: List.replicate n (0:Int):=by
  rw [Nat.add_comm 4 n];rfl
 rw [eL] at O7;change Own .i64 3 (eF w g (.int .i64 x0) (.int .i64 x1) (.int .i64 x2) (.int .i64 x3)) lo hi _ _ at O7
 change But lo hi w (eF w g (.int .i64 x0) (.int .i64 x1) (.int .i64 x2) (.int .i64 x3)) at T
 generalize eF w g (.int .i64 x0) (.int .i64 x1) (.int .i64 x2) (.int .i64 x3)=U at O7 T ⊢;have rU:aK .i64 U (some ⟨b,off,none⟩) zs:=r.old (B:=lo) (by intro q hq;simp at hq;rw [←hq];exact hb) (T.below (Nat.le_refl _) hlo);obtain ⟨O8,t8⟩:=jR zs 4 _ U O7 (by omega);have e8:(x0 :: x1 :: x2 :: x3 :: List.replicate n (0:Int)).take 4++zs++(x0 :: x1 :: x2 :: x3 :: List.replicate n (0:Int)).drop (4+zs.length)=x0 :: x1 :: x2 :: x3 :: zs:=by
  rw [List.drop_of_length_le (by simp;omega)];simp
 rw [e8] at O8;refine ⟨fun ty=>?_,O8,T.trans t8⟩
 have:=run_copy_cells (P:=Tryz.prog) U 31 31 ty 3 g 4 n n ⟨b,off,none⟩ n cap (zs.map (Value.int .i64)) Tryz.underlying31 (by kernel_rfl) (by simp [hz]) rU.cells
  (fun j hj=>by rw [(O7.store (4+j) (by simp at hj;omega) 0).1];rfl) (fun j hj=>(O7.store (4+j) (by simp at hj;omega) 0).2.1) (jw _)
 rw [this];simp [hz]
theorem ma (w:World) (x y:Int) (a:Option Addr) (n cap:Nat) (zs:List Int) (hz:zs.length=n) (hr:aK .i64 w a zs) (hn:n<=2097152):
 Calls Tryz.prog 221 #[.agg #[.int .i64 x,.int .i64 y,.slice a n cap]] w fun e w'=>∃a l c,e=.returned (.slice a l c)/\aA.Own w' w.heap.size w'.heap.size [.slice a l c] (ep x y zs)/\Below w.heap.size w w':=by
 have hA:=ae w (.cells #[.int .i64 x,.int .i64 y,.slice a n cap] 140);have X:=Box.new w 140 #[.int .i64 x,.int .i64 y,.slice a n cap];have hr':=hr.below hA;obtain ⟨k0,k1,k2⟩:=X.cells3;have zA:=X.lt;go_enter Tryz.func221,Tryz.ntmps221
 go_wp2_with fail
 generalize w.alloc (.cells #[.int .i64 x,.int .i64 y,.slice a n cap] 140)=W at hA X k0 k1 k2 zA hr' ⊢;refine (nv _ _ _ _ _ _ zs hz hr' hn).mono ?_
 rintro e w1 ⟨rfl,b1⟩;have X1:=X.below b1 zA;have B1:=Below.andThen hA b1;have r1:=hr'.below b1;clear k0 k1 k2 X b1 hA zA hr' hr;obtain ⟨k0,k1,k2⟩:=X1.cells3;by_cases hx:iu x y zs=true
 . have HX:=aa (sn hx)
   obtain ⟨_,_,⟨hn2,hn4⟩,_⟩:=sm.1 hx;rcases r1.cases with h0|⟨b,off,rfl,hb,_⟩
   . omega
   have hB2:=ae w1 (.cells #[.int .i64 21322,.int .i64 x,.int .i64 y,.int .i64 n] 3);have k2':=(hB2.cell (p:=⟨w.heap.size,2,none⟩) X1.lt).trans k2;have r2:=r1.below hB2;have hO:bj .i64 3 (w1.alloc (.cells #[.int .i64 21322,.int .i64 x,.int .i64 y,.int .i64 n] 3)) w1.heap.size (.slice (some ⟨w1.heap.size,0,none⟩) 4 4) [21322,x,y,n]:=bj.lit .i64 3 w1 [21322,x,y,n] 4 _ rfl rfl (by unfold maxLen;omega);obtain ⟨i0,hi,hz0,hz1,hz2⟩:=info_parts Tryz.info3;go_wp2_with (at_builtin;refine cZ .i64 rfl _ _ 31 rfl w1.heap.size 3 i0 (.int .i64 0) 8 Tryz.underlying31 hi hz0 hz1 hz2 rfl _ [21322,x,y,(n:Int)] rfl hO ⟨b,off,none⟩ n cap zs rfl hz r2 (by unfold maxLen;simp;omega) (by simp;omega) (by simp) ?_;intro v' w2 ho2 hb2;obtain ⟨a1,c1,hv1,_⟩:=ho2.shape;rw [show ([21322,x,y,(n:Int)]++zs).length=n+4 by simp;omega] at hv1;subst hv1)
   go_ret
   refine ⟨_,_,_,rfl,?_,B1.trans ((hB2.trans hb2).mono B1.size)⟩
   rw [HX.out,hz];exact (aR ho2).widen B1.size (Nat.le_refl _)
 have hx':iu x y zs=false:=by simpa using hx
 have HX:=aa (pS hx');go_wp2
 go_ret
 refine ⟨_,_,_,rfl,?_,B1.alloc B1.size _⟩
 rw [HX.out];exact (aR (bj.lit .i64 3 w1 [] 0 #[] rfl rfl (by unfold maxLen;omega))).widen B1.size (Nat.le_refl _)
theorem mg (w:World) (x y:Int) (a:Option Addr) (n cap:Nat) (zs:List Int) (hz:zs.length=n) (hr:aK .i64 w a zs) (hn:n<=2097152):
 Calls Tryz.prog 254 #[.agg #[.int .i64 x,.int .i64 y,.slice a n cap]] w fun e w'=>∃a l c,e=.returned (.slice a l c)/\aA.Own w' w.heap.size w'.heap.size [.slice a l c] (ep x y zs)/\Below w.heap.size w w':=by
 have hA:=ae w (.cells #[.int .i64 x,.int .i64 y,.slice a n cap] 140);have X:=Box.new w 140 #[.int .i64 x,.int .i64 y,.slice a n cap];have hr':=hr.below hA;obtain ⟨k0,k1,k2⟩:=X.cells3;have zA:=X.lt;go_enter Tryz.func254,Tryz.ntmps254
 go_wp2_with fail
 generalize w.alloc (.cells #[.int .i64 x,.int .i64 y,.slice a n cap] 140)=W at hA X k0 k1 k2 zA hr' ⊢;refine (nw _ _ _ _ _ _ zs hz hr' hn).mono ?_
 rintro e w1 ⟨rfl,b1⟩;have X1:=X.below b1 zA;have B1:=Below.andThen hA b1;have r1:=hr'.below b1;clear k0 k1 k2 X b1 hA zA hr' hr;obtain ⟨k0,k1,k2⟩:=X1.cells3;by_cases hx:iu x y zs=true
 . have HX:=aa (sn hx)
   obtain ⟨_,_,⟨hn2,hn4⟩,_⟩:=sm.1 hx;rw [hz] at hn2 hn4;obtain ⟨i0,hi,hz0,hz1,hz2⟩:=info_parts Tryz.info3;have hb3:i0.bytes*(4+n)<=281474976710656:=by rw [hz2];omega
   have hm3:4+n<=maxLen:=by unfold maxLen;omega
   have hwr:IntKind.i64.wrap (4+(n:Int))=4+(n:Int):=IntWalk.i64_in _ (by omega);go_wp2_with (at_make;refine wpList_make_full _ rfl _ _ 31 rfl w1.heap.size 3 i0 (.int .i64 0) 1 Tryz.underlying31 hi hz0 hz1 _ _ _ _ (4+n) rfl rfl rfl rfl hb3 hm3 (Nat.le_refl _) ?_;intro w2 hown hgrow)
   have hc0:cutO 0 (4+n)=4:=by unfold cutO;rw [if_neg (by omega)]
   have hsub:4+n-4=n:=by omega
   have o2:bj .i64 3 w2 w1.heap.size (.slice (some ⟨w1.heap.size,0,none⟩) (4+n) (4+n)) (List.replicate (4+n) (0:Int)):=by
    rw [ke] at hown;unfold bj;rw [List.length_replicate];exact hown
   have hg2:Below w1.heap.size w1 w2:=(Below.refl _ _).grown hgrow (Nat.le_refl _) (by simp);refine (pR _ _ _ _ _ (by omega) (Nat.le_refl _) (by omega)).mono ?_
   rintro e w3 ⟨rfl,hs3⟩;rw [hc0,hsub];have g3:=Below.andSame hg2 hs3;have X3:=(X1.below g3 X1.lt);rcases r1.cases with h0|⟨b,off,rfl,hb1,_⟩
   . omega
   have r3:=(r1.below g3);have B3:=Below.andThen B1 g3;have z3:=g3.size;have O3:Own .i64 3 w3.drew w1.heap.size w2.heap.size (.slice (some ⟨w1.heap.size,0,none⟩) (4+n) (4+n)) (List.replicate (4+n) (0:Int)):=(o2.own.same hs3.drew);clear o2 hown hgrow hs3 hg2 g3 k0 k1 k2 r1 hi hz0 hz1 hz2 hb3 hm3 hwr hc0 hsub;have zX:=X1.lt;clear X1;obtain ⟨k0,k1,k2⟩:=X3.cells3;obtain ⟨hcp,O8,t8⟩:=qV (x0:=21322) (x1:=x) (x2:=y) (x3:=n) (cap:=cap) O3 hz r3.draw hb1 z3;obtain ⟨c0,f0⟩:w3.cell? ⟨w1.heap.size,0,none⟩=some (.int .i64 0)/\w3.frozen? ⟨w1.heap.size,0,none⟩=false:=iw O3 0 (by omega);obtain ⟨c1,f1⟩:w3.cell? ⟨w1.heap.size,1,none⟩=some (.int .i64 0)/\w3.frozen? ⟨w1.heap.size,1,none⟩=false:=iw O3 1 (by omega);obtain ⟨c2,f2⟩:w3.cell? ⟨w1.heap.size,2,none⟩=some (.int .i64 0)/\w3.frozen? ⟨w1.heap.size,2,none⟩=false:=iw O3 2 (by omega);obtain ⟨c3,f3⟩:w3.cell? ⟨w1.heap.size,3,none⟩=some (.int .i64 0)/\w3.frozen? ⟨w1.heap.size,3,none⟩=false:=iw O3 3 (by omega);have o9:=aa O8;have b9:=aa (B3.drew.trans (t8.below (B:=w.heap.size) (by omega) B3.size));clear O8 t8 O3 r3;have hcp':∀ty,(Builtin.copy_ #[31,31] ty #[.slice (some ⟨w1.heap.size,4,none⟩) n n,.slice (some ⟨b,off,none⟩) n cap]).run Tryz.prog (eF w3 w1.heap.size (.int .i64 21322) (.int .i64 x) (.int .i64 y) (.int .i64 n)).drew=.ok (goInt n) ((eF w3.drew w1.heap.size (.int .i64 21322) (.int .i64 x) (.int .i64 y) (.int .i64 n)).setCells w1.heap.size 4 (zs.map (Value.int .i64))):=hcp;clear hcp;generalize (eF w3.drew w1.heap.size (.int .i64 21322) (.int .i64 x) (.int .i64 y) (.int .i64 n)).setCells w1.heap.size 4 (zs.map (Value.int .i64))=w9 at hcp' o9 b9;unfold eF at hcp';have hne:¬w1.heap.size=w.heap.size:=by omega
   have hne':¬w.heap.size=w1.heap.size:=by omega
   go_wp2_with fail
   go_region_held3 (fun w'=>w'.cell? ⟨w.heap.size,0,none⟩=some (.int .i64 x)/\w'.cell? ⟨w.heap.size,1,none⟩=some (.int .i64 y)/\w'.cell? ⟨w.heap.size,2,none⟩=some (.slice (some ⟨b,off,none⟩) n cap)) (first|(exact ⟨k0,k1,k2⟩)|go_keep) (fail)
   go_wp2
   go_ret
   refine ⟨_,_,_,rfl,?_,b9.out⟩
   rw [HX.out,hz];exact (aR o9.out.1).widen B1.size (Nat.le_refl _)
 have hx':iu x y zs=false:=by simpa using hx
 have HX:=aa (pS hx');go_wp2
 go_ret
 refine ⟨_,_,_,rfl,?_,B1.alloc B1.size _⟩
 rw [HX.out];exact (aR (bj.lit .i64 3 w1 [] 0 #[] rfl rfl (by unfold maxLen;omega))).widen B1.size (Nat.le_refl _)
def dp (q:al×List ai) (n:Int) (s:List Int) (j:Nat):al×List ai:=(List.range j).foldl (fun q i=>fA q i n s) q
def qW (q:al×List ai) (y z:Int) (zs:List Int):al×List ai:=aS (dp q (cD y) (ep y z zs) q.2.length) q.2.length
theorem mh (q:al×List ai) (n:Int) (s:List Int) (j:Nat):dp q n s (j+1)=fA (dp q n s j) j n s:=by unfold dp;rw [List.range_succ,List.foldl_append];rfl
theorem iU {q:al×List ai} (n:Int) (s:List Int) (h:bM q.2) (hf:q.1.vI<=1000):∀j,bM (dp q n s j).2/\dw q.1 (dp q n s j).1/\(dp q n s j).2.length=q.2.length
 | 0=>⟨h,dw.refl hf,rfl⟩
 | j+1=>by
  obtain ⟨h1,h2,h3⟩:=iU n s h hf j;rw [mh];exact ⟨oX h1,h2.trans (gc _ _ h2.2.2.2.2.2.2.2.2.2.1),by unfold fA;rw [ji];exact h3⟩
theorem pT (x y:Int) (zs:List Int):(ep x y zs).length<=zs.length+4:=by unfold ep;split<;>simp
theorem oe (w:World) (B:Nat) (x:al) (ms:List ai) (ds:List (Int×List Int)) (fm fd:List Nat) (h:aD w B x ms ds fm fd) (hf:x.vI<=1000) (hM:bM ms) (y z:Int) (ar:Option Addr) (nr cr:Nat) (zs:List Int) (fr:List Nat) (h5:aA.Mine w [.slice ar nr cr] zs fr) (h5B:B∉fr) (h5f:∀b∈fr,b∉fm) (hnr:nr<=2000000):
 Calls Tryz.prog 171 #[.pointer (some ⟨B,0,none⟩),.agg #[.int .i64 y,.int .i64 z,.slice ar nr cr]] w fun e w'=>e=.returned (.tuple #[])/\∃fm',aD w' B (qW (x,ms) y z zs).1 (qW (x,ms) y z zs).2 ds fm' fd/\aJ B fm w fm' w':=by
 have hzl:=(af h5.rd).1;have HK:Hid (∀j,_):=fun j=>iU (q:=(x,ms)) (cD y) (ep y z zs) hM hf j;have HRK:Hid (qW (x,ms) y z zs=aS (dp (x,ms) (cD y) (ep y z zs) ms.length) ms.length):=rfl;obtain ⟨P,hPP⟩:∃P,ep y z zs=P:=⟨_,rfl⟩;have hPl:P.length<=nr+4:=by rw [←hPP,←hzl];exact pT y z zs
 have HPP:=aa hPP;rw [hPP] at HK HRK;clear hPP;have hA:=ae w (.cells #[.int .i64 y,.int .i64 z,.slice ar nr cr] 140);have YB:=Box.new w 140 #[.int .i64 y,.int .i64 z,.slice ar nr cr];have zY:=YB.lt;have zB:=h.lt;have hlm:=h.ltm.1;have hlr:=h5.lt;have A0:=aa (h.below hA);have M5:=aa (h5.below hA);have BA:=aa hA;have hmx:∃cm0,ms.length<=cm0/\cm0<=9223372036854775807:=by
  obtain ⟨_,_,cm0,_,_,hm0,_⟩:=h;exact ⟨cm0,(af hm0.rd).2⟩
 obtain ⟨cm0,hmx⟩:=hmx;go_enter Tryz.func171,Tryz.ntmps171
 go_wp2
 have zW:(w.alloc (.cells #[.int .i64 y,.int .i64 z,.slice ar nr cr] 140)).heap.size=w.heap.size+1:=by simp
 have YH:=aa YB;clear YB hA;generalize w.alloc (.cells #[.int .i64 y,.int .i64 z,.slice ar nr cr] 140)=W at A0 M5 BA YH zY zW ⊢;go_loopw [4] (fun i wr=>∃(j:Nat) (fm1:List Nat),j<=ms.length/\i=.int .i64 j/\aD wr B (dp (x,ms) (cD y) P j).1 (dp (x,ms) (cD y) P j).2 ds fm1 fd/\aJ B fm W fm1 wr) (fun i _=>ms.length-(intOf i).toNat)
 case atStart=>exact ⟨0,fm,Nat.zero_le _,rfl,A0.out,aJ.refl _ _ _⟩
 obtain ⟨j,fm1,hj,rfl,hA,hMv⟩:=hrel;obtain ⟨hMj,hsj,hlj⟩:=HK.out j;have hfj:=hsj.2.2.2.2.2.2.2.2.2.1;have HS:=aa (mh (x,ms) (cD y) P j);generalize hst:dp (x,ms) (cD y) P j=st at hA hMj hsj hlj hfj HS;have HST:=aa hst;clear hst;obtain ⟨y1,ns⟩:=st;dsimp only at hA hMj hsj hlj hfj HS
 clear hsj;have HA:=aa hA;obtain ⟨bm,bd,cm,cd,X,hmm,hdd,hr,r1,r2⟩:=hA;rw [hlj] at X;unfold aC at X;have k3:=X.cells13.2.2.2.1;clear hmm hdd hr r1 r2 X;have yb:=hMv.box YH.out (by omega) (fun hm=>by have:=hlm _ hm;omega);have m5:=hMv.mine M5.out h5B h5f;have zw:=hMv.size;have zr:=HA.out.lt;by_cases hjn:j<ms.length
 . have i2:(j:Int)<(ms.length:Int):=by omega
   obtain ⟨y0,y1',y2'⟩:=yb.cells3;have MV:=aa hMv;have RD:=aa ((aP m5.rd).1);have zyb:=yb.lt;have YBH:=aa yb;clear hMv m5 yb;have hS:wr.drew.cell? ⟨w.heap.size,0,none⟩=some (.int .i64 y)/\wr.drew.cell? ⟨w.heap.size,1,none⟩=some (.int .i64 z)/\wr.drew.cell? ⟨w.heap.size,2,none⟩=some (.slice ar nr cr):=⟨y0,y1',y2'⟩;go_wp2_with fail
   refine wp_region_held_drew (S:=fun w'=>w'.cell? ⟨w.heap.size,0,none⟩=some (.int .i64 y)/\w'.cell? ⟨w.heap.size,1,none⟩=some (.int .i64 z)/\w'.cell? ⟨w.heap.size,2,none⟩=some (.slice ar nr cr)) (by kernel_rfl) ?_ (fun vF=>?_)
   . exact hS
   refine ab 0 vF ?_
   refine ab 1 vF ?_
   refine ab 2 vF ?_
   refine ab 3 vF ?_
   refine ab 5 vF ?_
   refine aq (i:=4) (by kernel_rfl) rfl (by kernel_rfl) (fun K hK=>?_)
   go_simp
   refine (lY _ _).mono ?_
   rintro e w9 ⟨rfl,h9⟩;subst h9;go_wp2_with fail
   clear vF;refine hK.out _ _ ?_ (fun vF=>?_)
   . exact hS
   clear hK K;refine aq (i:=6) (by kernel_rfl) rfl (by kernel_rfl) (fun K hK=>?_)
   go_simp
   refine (ma _ y z _ _ _ zs hzl RD.out.draw (by omega)).mono ?_
   rintro e w2 ⟨ap,lp,cp,rfl,o2,b2'⟩;have b2:Below wr.heap.size wr w2:=(Below.refl wr.heap.size wr).drew.trans b2';have o2b:aA.Own w2 wr.heap.size w2.heap.size [.slice ap lp cp] P:=by rw [←HPP.out];exact o2
   obtain ⟨fpp,mp,rp⟩:=o2b.mine;have hlp:lp<=2000004:=by have h1:=(af o2b.rd).1;omega
   have hS2:w2.cell? ⟨w.heap.size,0,none⟩=some (.int .i64 y)/\w2.cell? ⟨w.heap.size,1,none⟩=some (.int .i64 z)/\w2.cell? ⟨w.heap.size,2,none⟩=some (.slice ar nr cr):=⟨(b2.cell (p:=⟨w.heap.size,0,none⟩) zyb).trans y0,(b2.cell (p:=⟨w.heap.size,1,none⟩) zyb).trans y1',(b2.cell (p:=⟨w.heap.size,2,none⟩) zyb).trans y2'⟩;have A2:=aa (HA.out.below b2);have LT:=aa HA.out.ltm;have MV2:=aa (MV.out.below b2);have YB2:=aa (YBH.out.below b2 zyb);have MP:=aa mp;have RP:=aa rp;have z2:=b2.size;clear y0 y1' y2' o2 o2b b2 b2' mp rp MV HA YBH RD;go_wp2_with fail
   clear vF;refine hK.out _ _ ?_ (fun vF=>?_)
   . exact hS2
   clear hK K;refine aq (i:=7) (by kernel_rfl) rfl (by kernel_rfl) (fun K hK=>?_)
   go_simp
   refine (hU _ B y1 ns ds fm1 fd A2.out hfj hMj j (by omega) _ _ _ _ P fpp MP.out (fun hm=>by have:=RP.out _ hm;omega) (fun b hb hm=>by have h1:=RP.out b hb;have h2:=LT.out.1 b hm;omega) (by omega)).mono ?_
   rintro e w3 ⟨rfl,fm3,hA3,hMv3⟩;have HM3:=aa (MV2.out.trans hMv3);have YB3:=HM3.out.box YH.out (by omega) (fun hm=>by have:=hlm _ hm;omega);have hS3:w3.cell? ⟨w.heap.size,0,none⟩=some (.int .i64 y)/\w3.cell? ⟨w.heap.size,1,none⟩=some (.int .i64 z)/\w3.cell? ⟨w.heap.size,2,none⟩=some (.slice ar nr cr):=YB3.cells3;have HA3:Hid (aD w3 B (dp (x,ms) (cD y) P (j+1)).1 (dp (x,ms) (cD y) P (j+1)).2 ds fm3 fd):=by unfold Hid;rw [HS.out];exact hA3
   clear hA3 hMv3 A2 MV2 MP RP LT hS2 YB2 YB3;go_wp2_with fail
   clear vF;refine hK.out _ _ ?_ (fun vF=>?_)
   . exact hS3
   clear hK K;refine wpAnyH_done (by kernel_rfl) ?_ _
   clear vF;clear hS hS3;go_wp2
   go_roundw
   case rel=>exact ⟨j+1,fm3,by omega,by go_num,HA3.out,HM3.out⟩
   case measure=>simp [intOf];omega
 have ej:j=ms.length:=by omega
 subst ej;have HMV:=aa (((aJ.refl B fm w).below BA.out).trans hMv);clear hMv m5 yb;go_wp2_with fail
 refine (ir _ B y1 ns ds fm1 fd HA.out hfj hMj).mono ?_
 rintro e w3 ⟨rfl,fm3,hA3,hMv3⟩;clear k3;go_wp2
 refine bodyPost_end (v:=.tuple #[]) (results_none rfl _ _ _) rfl ?_
 exact ⟨rfl,fm3,by rw [HRK.out,HST.out,←hlj];exact hA3,HMV.out.trans hMv3⟩
def ee (x:al) (ms:List ai) (s p:Int) (zs:List Int) (j:Nat):List DOp:=((List.range j).filter fun i:Nat=>cM x ms (i:Int) s).map fun i:Nat=>wrK (bV s) [gf x.n p zs i] i
theorem mj (x:al) (ms:List ai) (s p:Int) (zs:List Int) (j:Nat):ee x ms s p zs (j+1)=ee x ms s p zs j++(if cM x ms (j:Int) s=true then [wrK (bV s) [gf x.n p zs j] j] else []):=by
 unfold ee;rw [List.range_succ,List.filter_append,List.map_append];cases h:cM x ms (j:Int) s<;>simp [h]
theorem sT (x:al) (ms:List ai) (s p:Int) (zs:List Int) (j:Nat):(ee x ms s p zs j).length<=j:=by
 unfold ee;rw [List.length_map];exact Nat.le_trans (List.length_filter_le _ _) (by rw [List.length_range];exact Nat.le_refl _)
theorem sU {x:al} {ms:List ai} {i:Nat} {s:Int} (h:cM x ms (i:Int) s=true):i<ms.length/\cN ms i=false:=by
 unfold cM at h;simp only [Bool.and_eq_true,aI,Bool.not_eq_true'] at h
 refine ⟨by omega,?_⟩
 have:=h.2.1;rw [Int.toNat_natCast] at this;exact this
theorem og {x:al} {ms:List ai} {s p:Int} {zs:List Int} {j:Nat} {o:DOp} (h:o∈ee x ms s p zs j):o.1<ms.length/\cN ms o.1=false:=by
 unfold ee at h;obtain ⟨i,hi,rfl⟩:=List.mem_map.1 h;exact sU (List.mem_filter.1 hi).2
theorem sV {x y:al} {ms ns:List ai} {i:Nat} {s:Int} (h1:y.lost=x.lost) (h2:y.vG=x.vG) (h3:ns.length=ms.length) (h4:cN ns i=cN ms i):cM y ns (i:Int) s=cM x ms (i:Int) s:=by
 have e:∀l:List ai,(l.getD (i:Int).toNat ([],[],false,[])).2.2.1=cN l i:=fun l=>by rw [Int.toNat_natCast];rfl
 unfold cM;rw [e,e,h1,h2,h3,h4]
theorem mn {q:al×List ai} (h:bM q.2) (hf:q.1.vI<=1000) (s p:Int) (zs:List Int):∀j,dx q (ee q.1 q.2 s p zs j)=bg q s p zs j
 | 0=>rfl
 | j+1=>by
  have ih:=mn h hf s p zs j;obtain ⟨_,hs,hl⟩:=fJ s p zs h hf j;have hfl:cN (bg q s p zs j).2 j=cN q.2 j:=by rw [←ih];exact ky _ _ _
  have hlv:=sV (s:=s) hs.2.2.2.1 hs.2.2.2.2.1 hl hfl;rw [mj,jN,ih,iT,hlv,hs.2.1];cases hb:cM q.1 q.2 (j:Int) s
  . rw [if_neg (by simp),if_neg (by simp)]
    rfl
  rw [if_pos rfl,if_pos rfl];rfl
theorem ul (q:al×List ai) (n:Int) (s:List Int) (j:Nat):dx q (dh (wrK n s) q.2 j)=dp q n s j:=jO (fun _=>rfl) q j
def wr1 (q:al×List ai):al×List ai:=if 4<=q.1.seq-q.1.tail then bD q else q
def wr2 (q:al×List ai) (s:Int) (zs:List Int):al×List ai:=qW q q.1.seq s zs
def wr3 (q:al×List ai) (s:Int) (zs:List Int):al×List ai:=bg ({q.1 with seq:=q.1.seq+1},q.2) s (bX q.1.n q.1.s s) zs q.2.length
def mt (q:al×List ai) (s:Int) (zs:List Int):al×List ai:=if (wr2 q s zs).1.down=true then wr2 q s zs else wr3 (wr2 q s zs) s zs
def aH (q:al×List ai) (s:Int) (zs:List Int):al×List ai:=if (wr1 q).1.down=true then wr1 q else mt (wr1 q) s zs
def aY (x:al) (ms:List ai) (ds:List (Int×List Int)) (s:Int) (zs:List Int):Int:=
 if (aZ x ms ds&&(decide ((zs.length:Int)=x.n-1)&&cG zs))=false then 1 else if x.down=true then 6 else if inB s 0 (x.s-1)=false then 2 else if x.vH=true then 5 else if x.seq=60000∨59990<=x.gen then 7 else 0
def bH (x:al) (ms:List ai) (ds:List (Int×List Int)) (s:Int) (zs:List Int):al×List ai:=if aY x ms ds s zs=0 then aH (x,ms) s zs else (x,ms)
def bI (x:al) (ms:List ai) (ds:List (Int×List Int)) (s:Int) (zs:List Int):Int:=if aY x ms ds s zs=0 then (if (aH (x,ms) s zs).1.down=true then 6 else 0) else aY x ms ds s zs
theorem fP {x:al} {ms:List ai} {ds:List (Int×List Int)} {s:Int} {zs:List Int} (h:aY x ms ds s zs=0):aZ x ms ds=true/\(zs.length:Int)=x.n-1/\cG zs=true/\x.down=false/\inB s 0 (x.s-1)=true/\x.vH=false/\¬x.seq=60000/\x.gen<59990:=by
 unfold aY at h;split at h
 . cases h
 rename_i h1
 split at h
 . cases h
 rename_i h2
 split at h
 . cases h
 rename_i h3
 split at h
 . cases h
 rename_i h4
 split at h
 . cases h
 rename_i h5
 simp only [Bool.not_eq_false,Bool.and_eq_true,decide_eq_true_eq] at h1
 refine ⟨h1.1,h1.2.1,h1.2.2,by simpa using h2,by simpa using h3,by simpa using h4,fun e=>h5 (.inl e),?_⟩
 have:¬59990<=x.gen:=fun e=>h5 (.inr e);omega
def Fit (q q':al×List ai):Prop:=bM q'.2/\q'.2.length=q.2.length/\q'.1.n=q.1.n/\q'.1.s=q.1.s/\q'.1.seq=q.1.seq/\q'.1.vI<=1000
theorem Fit.trans {a b c:al×List ai} (h:Fit a b) (k:Fit b c):Fit a c:=⟨k.1,k.2.1.trans h.2.1,k.2.2.1.trans h.2.2.1,k.2.2.2.1.trans h.2.2.2.1,k.2.2.2.2.1.trans h.2.2.2.2.1,k.2.2.2.2.2⟩
theorem mu {q q':al×List ai} (h1:bM q'.2) (h2:dw q.1 q'.1) (h3:q'.2.length=q.2.length):Fit q q':=⟨h1,h3,h2.2.1,h2.2.2.1,h2.2.2.2.2.2.1,h2.2.2.2.2.2.2.2.2.2.1⟩
theorem mz {q:al×List ai} (h:bM q.2) (hf:q.1.vI<=1000) (j:Nat):Fit q (aS q j):=by
 obtain ⟨a,b,c⟩:=dm h hf j;exact mu a b c
theorem um {q:al×List ai} (h:bM q.2) (hf:q.1.vI<=1000):Fit q (cK q):=by
 obtain ⟨a,b,c⟩:=ew (q:=({q.1 with gen:=q.1.gen+1},q.2)) h hf q.2.length;have h1:=mu (q:=({q.1 with gen:=q.1.gen+1},q.2)) a b c;exact Fit.trans (show Fit q (dl ({q.1 with gen:=q.1.gen+1},q.2) q.2.length) from h1) (mz a h1.2.2.2.2.2 _)
theorem sX {q:al×List ai} (h:bM q.2) (hf:q.1.vI<=1000):Fit q (bD q):=by
 have h1:=mz h hf q.2.length;unfold bD;split
 . exact h1
 exact h1.trans (um (q:=({(aS q q.2.length).1 with tail:=(aS q q.2.length).1.seq},(aS q q.2.length).2)) h1.1 h1.2.2.2.2.2)
theorem oZ {q:al×List ai} (h:bM q.2) (hf:q.1.vI<=1000):Fit q (wr1 q):=by
 unfold wr1;split
 . exact sX h hf
 exact ⟨h,rfl,rfl,rfl,rfl,hf⟩
theorem pU {q:al×List ai} (h:bM q.2) (hf:q.1.vI<=1000) (n:Int) (s:List Int) (j:Nat):Fit q (dp q n s j):=by
 obtain ⟨a,b,c⟩:=iU n s h hf j;exact mu a b c
theorem jS {q:al×List ai} (h:bM q.2) (hf:q.1.vI<=1000) (s:Int) (zs:List Int):Fit q (wr2 q s zs):=by
 have h1:=pU h hf (cD q.1.seq) (ep q.1.seq s zs) q.2.length;exact h1.trans (mz h1.1 h1.2.2.2.2.2 _)
theorem jT {q:al×List ai} (h:bM q.2) (hf:q.1.vI<=1000) (s:Int) (zs:List Int):bM (aH q s zs).2/\(aH q s zs).2.length=q.2.length:=by
 have h1:=oZ h hf;unfold aH;split
 . exact ⟨h1.1,h1.2.1⟩
 have h2:=h1.trans (jS h1.1 h1.2.2.2.2.2 s zs);unfold mt;split
 . exact ⟨h2.1,h2.2.1⟩
 obtain ⟨a,_,c⟩:=fJ (q:=({(wr2 (wr1 q) s zs).1 with seq:=(wr2 (wr1 q) s zs).1.seq+1},(wr2 (wr1 q) s zs).2)) s (bX (wr2 (wr1 q) s zs).1.n (wr2 (wr1 q) s zs).1.s s) zs h2.1 h2.2.2.2.2.2 (wr2 (wr1 q) s zs).2.length;exact ⟨a,c.trans h2.2.1⟩
theorem qX {x:al} {ms:List ai} {ds:List (Int×List Int)} {s:Int} {zs:List Int} (hw:aM ms ds<=1048576):aM (bH x ms ds s zs).2 ds<=2097152:=by
 unfold bH;split
 . rename_i h
   obtain ⟨ha,_⟩:=fP h;obtain ⟨fc,mk,_⟩:=cH ha;obtain ⟨a,c⟩:=jT (q:=(x,ms)) mk fc s zs;exact jj ha a c hw
 exact Nat.le_trans hw (by omega)
end Go.Proofs.YtejeekndbnpmoaaGreat

/-
 The walks of the specification's Blocks, ParityOf, DiskOf, StripeOf, IndexOf and BlockAt. No condition.
-/
import Derived.Test.YtfimpohbpccjaaaGreatRowGetBlockSq1
import Derived.Test.YtfimpohbpccjaaaGreatRows

set_option maxRecDepth 100000
set_option maxHeartbeats 8000000
set_option linter.unusedSimpArgs false

namespace Go.Proofs.YtfimpohbpccjaaaGreat
open Go.RowKit

def dA (l:List Int):Int:=l.foldl (fun n x=>bits BinOp.xor IntKind.i64 n x) 0
theorem ir {zs:List Int} {j:Nat} {x:Int} (h:j<zs.length) (hx:zs.getD j 0=x):bits BinOp.xor IntKind.i64 (dA (zs.take j)) x=dA (zs.take (j+1)):=by
 have e:zs[j]=x:=by rw [←hx];simp [List.getElem?_eq_getElem h]
 unfold dA;rw [List.take_succ_eq_append_getElem h,List.foldl_append,e];rfl
def bv (n:Int):BitVec 64:=BitVec.ofInt 64 n
def fw (v:BitVec 64):Int:=IntKind.i64.wrap (v.toNat:Int)
theorem gH (a b:Int):bits BinOp.xor IntKind.i64 a b=fw (bv a ^^^ bv b):=rfl
theorem fx (v:BitVec 64):bv (fw v)=v:=by
 apply BitVec.eq_of_toNat_eq
 have:=v.isLt;unfold bv fw;rw [BitVec.toNat_ofInt,IntKind.wrap_i64];omega
def iu (l:List Int):BitVec 64:=l.foldl (fun v x=>v ^^^ bv x) 0
theorem iM (l:List Int) (v:BitVec 64):l.foldl (fun n x=>bits BinOp.xor IntKind.i64 n x) (fw v)=fw (l.foldl (fun v x=>v ^^^ bv x) v):=by
 induction l generalizing v with
 | nil=>rfl
 | cons x l ih=>rw [List.foldl_cons,List.foldl_cons,gH,fx,ih]
theorem jb (l:List Int):dA l=fw (iu l):=by
 have h:fw 0=0:=by decide
 unfold dA iu;rw [←h,iM]
def bG (zs:List Int) (k:Int) (j:Nat):Int:=(List.range j).foldl (fun (n:Int) (i:Nat)=>if (i:Int)=k then n else bits BinOp.xor IntKind.i64 n (zs.getD i 0)) 0
theorem eG (zs:List Int) (k:Int) (j:Nat):bG zs k (j+1)=if (j:Int)=k then bG zs k j else bits BinOp.xor IntKind.i64 (bG zs k j) (zs.getD j 0):=by
 unfold bG;rw [List.range_succ,List.foldl_append];rfl
theorem jc (zs:List Int) (k:Int) (j:Nat) (hj:j<=zs.length):∃v,bG zs k j=fw v/\iu (zs.take j)=if 0<=k/\k<j then v ^^^ bv (zs.getD k.toNat 0) else v:=by
 induction j with
 | zero=>exact ⟨0,(by decide:(0:Int)=fw 0),by rw [if_neg (by omega)];rfl⟩
 | succ j ih=>
  obtain ⟨v,hv,hx⟩:=ih (by omega);have hs:iu (zs.take (j+1))=iu (zs.take j) ^^^ bv (zs.getD j 0):=by
   unfold iu;rw [List.take_succ_eq_append_getElem (by omega),List.foldl_append];simp [List.getElem?_eq_getElem (show j<zs.length by omega)]
  rw [eG,hs,hx];by_cases hk:(j:Int)=k
  . subst hk
    refine ⟨v,by rw [if_pos rfl];exact hv,?_⟩
    rw [if_neg (by omega),if_pos (by omega),Int.toNat_natCast]
  refine ⟨v ^^^ bv (zs.getD j 0),by rw [if_neg hk,hv,gH,fx],?_⟩
  by_cases h1:0<=k/\k<j
  . rw [if_pos h1,if_pos (by omega),BitVec.xor_assoc,BitVec.xor_comm (bv (zs.getD k.toNat 0)),BitVec.xor_assoc]
  rw [if_neg h1,if_neg (by omega)]
theorem iN (zs:List Int) (k:Int):bG zs k zs.length=if 0<=k/\k<zs.length then bits BinOp.xor IntKind.i64 (dA zs) (zs.getD k.toNat 0) else dA zs:=by
 obtain ⟨v,hv,hx⟩:=jc zs k zs.length (Nat.le_refl _);rw [List.take_length] at hx;rw [hv,jb,hx];by_cases h:0<=k/\k<zs.length
 . rw [if_pos h,if_pos h,gH,fx,BitVec.xor_assoc,BitVec.xor_self,BitVec.xor_zero]
 rw [if_neg h,if_neg h]
theorem eU (w:World) (a:Option Addr) (len cap:Nat) (zs:List Int) (hz:zs.length=len) (hr:aQ .i64 w a zs) (hlen:len<=2097152):
 Calls Tryz.prog 95 #[.slice a len cap] w fun e w'=>e=.returned (.int .i64 (dA zs))/\aG w w':=by
 go_enter Tryz.func95,Tryz.ntmps95
 go_wp2
 go_loop [3,8] (fun n i=>∃j:Nat,j<=len/\i=.int .i64 j/\n=.int .i64 (dA (zs.take j))) (fun _ i=>len-(intOf i).toNat)
 case atStart=>exact ⟨0,Nat.zero_le _,rfl,rfl⟩
 obtain ⟨j,hj,rfl,rfl⟩:=hrel;by_cases hlt:j<len
 . rcases hr.cases with h0|⟨b,off,rfl,hbl,hc⟩
   . omega
   have hc1:=hc j (by omega);have HX:Hid (bits BinOp.xor IntKind.i64 (dA (zs.take j)) (zs.getD j 0)=dA (zs.take (j+1))):=ir (by omega) rfl;generalize zs.getD j 0=x at hc1 HX;clear hc;go_wp2
   go_round
   case rel=>exact ⟨j+1,by omega,by go_num,by rw [HX.out]⟩
   case measure=>simp [intOf];omega
 go_wp2
 go_ret
 have e:j=len:=by omega
 subst e;exact ⟨ai (by rw [List.take_of_length_le (by omega)]),aG.refl _⟩
theorem dB (w:World) (a:Option Addr) (len cap:Nat) (zs:List Int) (k:Int) (hz:zs.length=len) (hr:aQ .i64 w a zs) (hlen:len<=2097152):
 Calls Tryz.prog 81 #[.slice a len cap,.int .i64 k] w fun e w'=>e=.returned (.int .i64 (bG zs k len))/\aG w w':=by
 have HS:Hid (bG zs k len=if 0<=k/\k<len then bits BinOp.xor IntKind.i64 (dA zs) (zs.getD k.toNat 0) else dA zs):=by unfold Hid;rw [←hz];exact iN zs k
 go_enter Tryz.func81,Tryz.ntmps81
 go_wp2_with fail
 refine (eU _ _ _ _ zs hz hr hlen).mono ?_
 rintro e w1 ⟨rfl,hs⟩;by_cases h0:0<=k
 . by_cases h1:k<len
   . obtain ⟨k,rfl⟩:=Int.eq_ofNat_of_zero_le h0
     rcases hr.cases with h2|⟨b,off,rfl,hbl,hc⟩
     . omega
     have hc1:=(hs.cell ⟨b,off+k,none⟩).trans (hc k (by omega));have HE:Hid (bG zs k len=bits BinOp.xor IntKind.i64 (dA zs) (zs.getD k 0)):=by unfold Hid;rw [HS.out,if_pos ⟨h0,h1⟩,Int.toNat_natCast]
     clear hc HS;generalize zs.getD k 0=x at hc1 HE;go_wp2
     go_ret
     exact ⟨ai HE.out.symm,hs⟩
   have HE:Hid (bG zs k len=dA zs):=by unfold Hid;rw [HS.out,if_neg (by omega)]
   go_wp2
   go_ret
   exact ⟨ai HE.out.symm,hs⟩
 have HE:Hid (bG zs k len=dA zs):=by unfold Hid;rw [HS.out,if_neg (by omega)]
 go_wp2
 go_ret
 exact ⟨ai HE.out.symm,hs⟩
theorem dC (w:World) (a:Option Addr) (len cap:Nat) (zs:List Int) (k:Int) (hz:zs.length=len) (hr:aQ .i64 w a zs) (hlen:len<=2097152):
 Calls Tryz.prog 68 #[.slice a len cap,.int .i64 k] w fun e w'=>e=.returned (.int .i64 (bG zs k len))/\aG w w':=by
 go_enter Tryz.func68,Tryz.ntmps68
 go_wp2
 go_loop [5,6] (fun n i=>∃j:Nat,j<=len/\i=.int .i64 j/\n=.int .i64 (bG zs k j)) (fun _ i=>len-(intOf i).toNat)
 case atStart=>exact ⟨0,Nat.zero_le _,rfl,rfl⟩
 obtain ⟨j,hj,rfl,rfl⟩:=hrel;by_cases hlt:j<len
 . have hs:=eG zs k j
   by_cases hk:(j:Int)=k
   . have hkb:((j:Int)==k)=true:=by simpa using hk
     have HX:Hid (bG zs k (j+1)=bG zs k j):=by unfold Hid;rw [hs,if_pos hk]
     clear hs;go_wp2
     go_round
     case rel=>exact ⟨j+1,by omega,by go_num,by rw [HX.out]⟩
     case measure=>simp [intOf];omega
   have hkb:((j:Int)==k)=false:=by simpa using hk
   have HX:Hid (bG zs k (j+1)=bits BinOp.xor IntKind.i64 (bG zs k j) (zs.getD j 0)):=by unfold Hid;rw [hs,if_neg hk]
   clear hs;rcases hr.cases with h0|⟨b,off,rfl,hbl,hc⟩
   . omega
   have hc1:=hc j (by omega);generalize zs.getD j 0=x at hc1 HX;clear hc;go_wp2
   go_round
   case rel=>exact ⟨j+1,by omega,by go_num,by rw [HX.out]⟩
   case measure=>simp [intOf];omega
 go_wp2
 go_ret
 have e:j=len:=by omega
 subst e;exact ⟨rfl,aG.refl _⟩
theorem eJ {n s t:Int}:aH n s t=true ↔ bo n s=true/\0<=t/\t<=s-1:=by unfold aH;rw [Bool.and_eq_true,aP]
theorem cR (w:World) (n s:Int):Calls Tryz.prog 29 #[.agg #[.int .i64 n,.int .i64 s]] w fun e w'=>e=.returned (.int .i64 (bg n s))/\Below w.heap.size w w':=by
 have hA:=af w (.cells #[.int .i64 n,.int .i64 s] 31);have X:=bp.new w 31 n s;obtain ⟨k0,k1⟩:=X.cells;have zA:=X.lt;go_enter Tryz.func29,Tryz.ntmps29
 go_wp2_with fail
 refine (cZ _ _ _).mono ?_
 rintro e w1 ⟨rfl,b1⟩;have X1:=X.below b1 zA;obtain ⟨p0,p1⟩:=X1.cells;have B1:=Below.andThen hA b1;clear k0 k1 X b1 hA zA;by_cases hg:bo n s=true
 . obtain ⟨h1,h2,h3,h4⟩:=ap.1 hg
   have hm:=dt hg;have HB:=ab (cJ hg);have gw:IntKind.i64.wrap (s*(n-1))=s*(n-1):=IntWalk.i64_in _ (by omega);go_wp2
   go_ret
   exact ⟨ai HB.out.symm,B1⟩
 have hg:bo n s=false:=by simpa using hg
 go_wp2
 go_ret
 exact ⟨ai (cp hg).symm,B1⟩
theorem dP (w:World) (n s t:Int):Calls Tryz.prog 69 #[.agg #[.int .i64 n,.int .i64 s],.int .i64 t] w fun e w'=>e=.returned (.bool (aH n s t))/\Below w.heap.size w w':=by
 have hA:=af w (.cells #[.int .i64 n,.int .i64 s] 31);have X:=bp.new w 31 n s;obtain ⟨k0,k1⟩:=X.cells;have zA:=X.lt;go_enter Tryz.func69,Tryz.ntmps69
 go_wp2_with fail
 refine (cZ _ _ _).mono ?_
 rintro e w1 ⟨rfl,b1⟩;have X1:=X.below b1 zA;obtain ⟨p0,p1⟩:=X1.cells;have B1:=Below.andThen hA b1;clear k0 k1 X b1 hA zA;by_cases hg:bo n s=true
 . obtain ⟨h1,h2,h3,h4⟩:=ap.1 hg
   go_wp2_with fail
   refine (al _ _ _ _).mono ?_
   rintro e w2 ⟨rfl,rfl⟩;go_wp2
   go_ret
   exact ⟨ac (by unfold aH;rw [hg];rfl),B1⟩
 have hg:bo n s=false:=by simpa using hg
 go_wp2
 go_ret
 exact ⟨ac (by unfold aH;rw [hg];rfl),B1⟩
theorem dV (w:World) (n s t:Int):Calls Tryz.prog 70 #[.agg #[.int .i64 n,.int .i64 s],.int .i64 t] w fun e w'=>e=.returned (.int .i64 (eh n s t))/\Below w.heap.size w w':=by
 have hA:=af w (.cells #[.int .i64 n,.int .i64 s] 31);have X:=bp.new w 31 n s;obtain ⟨k0,k1⟩:=X.cells;have zA:=X.lt;go_enter Tryz.func70,Tryz.ntmps70
 go_wp2_with fail
 refine (dP _ _ _ _).mono ?_
 rintro e w1 ⟨rfl,b1⟩;have X1:=X.below b1 zA;obtain ⟨p0,p1⟩:=X1.cells;have B1:=Below.andThen hA b1;clear k0 k1 X b1 hA zA;by_cases hg:aH n s t=true
 . obtain ⟨hg1,h1,h2⟩:=eJ.1 hg
   obtain ⟨g1,g2,g3,g4⟩:=ap.1 hg1;have hm1:0<=t % n:=Int.emod_nonneg _ (by omega);have hm2:t % n<n:=Int.emod_lt_of_pos _ (by omega);have HB:Hid (eh n s t=n-1-t % n):=by unfold Hid eh;rw [if_pos hg]
   go_wp2_with fail
   go_quiet (fail)
   go_wp2
   go_ret
   exact ⟨ai (by rw [HB.out]),Below.andSame B1 ((aG.refl _).drewN _)⟩
 have hg':aH n s t=false:=by simpa using hg
 go_wp2
 go_ret
 exact ⟨ai (by unfold eh;rw [if_neg hg]),B1⟩
theorem eK (w:World) (n s t i:Int):Calls Tryz.prog 49 #[.agg #[.int .i64 n,.int .i64 s],.int .i64 t,.int .i64 i] w fun e w'=>e=.returned (.int .i64 (cx n s t i))/\Below w.heap.size w w':=by
 have hA:=af w (.cells #[.int .i64 n,.int .i64 s] 31);have X:=bp.new w 31 n s;obtain ⟨k0,k1⟩:=X.cells;have zA:=X.lt;go_enter Tryz.func49,Tryz.ntmps49
 go_wp2_with fail
 refine (dP _ _ _ _).mono ?_
 rintro e w1 ⟨rfl,b1⟩;have X1:=X.below b1 zA;have B1:=Below.andThen hA b1;clear k0 k1 X b1 hA zA;obtain ⟨k0,k1⟩:=X1.cells;by_cases hs:aH n s t=true
 . obtain ⟨hg,h1,h2⟩:=eJ.1 hs
   obtain ⟨g1,g2,g3,g4⟩:=ap.1 hg;go_wp2_with fail
   refine (al _ _ _ _).mono ?_
   rintro e w2 ⟨rfl,rfl⟩;by_cases hi:inB i 0 (n-2)=true
   . obtain ⟨h3,h4⟩:=aP.1 hi
     have hm1:0<=t % n:=Int.emod_nonneg _ (by omega);have hm2:t % n<n:=Int.emod_lt_of_pos _ (by omega);have HP:eh n s t=n-1-t % n:=by unfold eh;rw [if_pos hs]
     have HPar:∀W:World,Calls Tryz.prog 70 #[.agg #[.int .i64 n,.int .i64 s],.int .i64 t] W fun e w'=>e=.returned (.int .i64 (n-1-t % n))/\Below W.heap.size W w':=by
      intro W;rw [←HP];exact dV _ _ _ _
     have HD:Hid (cx n s t i=(n-1-t % n+1+i) % n):=by unfold Hid cx cH;rw [hs,hi];rfl
     clear HP;generalize t % n=r at hm1 hm2 HPar HD;have e1:¬n=0:=by omega
     have e2:(n-1-r+1+i).tmod n=(n-1-r+1+i) % n:=Int.tmod_eq_emod_of_nonneg (by omega);have e3:IntKind.i64.wrap (n-1-r+1)=n-1-r+1:=IntWalk.i64_in _ (by omega);have e4:IntKind.i64.wrap (n-1-r+1+i)=n-1-r+1+i:=IntWalk.i64_in _ (by omega);go_wp2_with fail
     go_region_held3 (fun w'=>w'.cell? ⟨w.heap.size,0,none⟩=some (.int .i64 n)/\w'.cell? ⟨w.heap.size,1,none⟩=some (.int .i64 s))
      (first|(exact X2.cells)|(exact X1.cells)|go_keep)
      (first
       | (go_at_call 70;refine (HPar _).mono ?_;rintro e w2 ⟨rfl,b2⟩;have B2:=Below.andThen B1.drew b2;have X2:=X1.drew.below b2 X1.lt))
     go_wp2
     go_ret
     exact ⟨ai HD.out.symm,B2⟩
   have hi':inB i 0 (n-2)=false:=by simpa using hi
   go_wp2
   go_ret
   exact ⟨ai (by unfold cx cH;rw [hs,hi'];rfl),B1⟩
 have hs':aH n s t=false:=by simpa using hs
 go_wp2
 go_ret
 exact ⟨ai (by unfold cx cH;rw [hs'];rfl),B1⟩
theorem ef {n s b:Int} (h:aU n s b=true):bo n s=true/\0<=b/\b<bg n s:=by
 unfold aU at h;rw [aP] at h;by_cases hg:bo n s=true
 . exact ⟨hg,by omega,by omega⟩
 rw [cp (by simpa using hg)] at h;omega
theorem dW (w:World) (n s b:Int):Calls Tryz.prog 13 #[.agg #[.int .i64 n,.int .i64 s],.int .i64 b] w fun e w'=>e=.returned (.int .i64 (ao n s b))/\Below w.heap.size w w':=by
 have hA:=af w (.cells #[.int .i64 n,.int .i64 s] 31);have X:=bp.new w 31 n s;obtain ⟨k0,k1⟩:=X.cells;have zA:=X.lt;have hr:=ck n s;have HR:Hid (inB b 0 (bg n s-1)=aU n s b):=rfl;go_enter Tryz.func13,Tryz.ntmps13
 go_wp2_with fail
 refine (cR _ _ _).mono ?_
 rintro e w1 ⟨rfl,b1⟩;have X1:=X.below b1 zA;have B1:=Below.andThen hA b1;clear k0 k1 X b1 hA zA;obtain ⟨k0,k1⟩:=X1.cells;go_wp2_with fail
 refine (al _ _ _ _).mono ?_
 rintro e w2 ⟨rfl,rfl⟩;rw [HR.out];by_cases hb:aU n s b=true
 . obtain ⟨hg,h0,h1⟩:=ef hb
   obtain ⟨g1,g2,g3,g4⟩:=ap.1 hg;have HS:Hid (ao n s b=b / (n-1)):=by unfold Hid ao;rw [if_pos hb]
   have d1:0<=b / (n-1):=Int.ediv_nonneg (by omega) (by omega);have d2:b / (n-1)<=b:=Int.ediv_le_self _ (by omega);have e1:¬n-1=0:=by omega
   have e2:IntKind.i64.wrap (b.tdiv (n-1))=b / (n-1):=by rw [Int.tdiv_eq_ediv_of_nonneg h0];exact IntWalk.i64_in _ (by omega)
   go_wp2
   go_ret
   exact ⟨ai HS.out.symm,B1⟩
 have hb':aU n s b=false:=by simpa using hb
 go_wp2
 go_ret
 exact ⟨ai (by unfold ao;rw [if_neg hb]),B1⟩
theorem eo (w:World) (n s b:Int):Calls Tryz.prog 14 #[.agg #[.int .i64 n,.int .i64 s],.int .i64 b] w fun e w'=>e=.returned (.int .i64 (aR n s b))/\Below w.heap.size w w':=by
 have hA:=af w (.cells #[.int .i64 n,.int .i64 s] 31);have X:=bp.new w 31 n s;obtain ⟨k0,k1⟩:=X.cells;have zA:=X.lt;have hr:=ck n s;have HR:Hid (inB b 0 (bg n s-1)=aU n s b):=rfl;go_enter Tryz.func14,Tryz.ntmps14
 go_wp2_with fail
 refine (cR _ _ _).mono ?_
 rintro e w1 ⟨rfl,b1⟩;have X1:=X.below b1 zA;have B1:=Below.andThen hA b1;clear k0 k1 X b1 hA zA;obtain ⟨k0,k1⟩:=X1.cells;go_wp2_with fail
 refine (al _ _ _ _).mono ?_
 rintro e w2 ⟨rfl,rfl⟩;rw [HR.out];by_cases hb:aU n s b=true
 . obtain ⟨hg,h0,h1⟩:=ef hb
   obtain ⟨g1,g2,g3,g4⟩:=ap.1 hg;have HS:Hid (aR n s b=b % (n-1)):=by unfold Hid aR;rw [if_pos hb]
   have e1:¬n-1=0:=by omega
   have e3:b.tmod (n-1)=b % (n-1):=Int.tmod_eq_emod_of_nonneg h0;go_wp2
   go_ret
   exact ⟨ai HS.out.symm,B1⟩
 have hb':aU n s b=false:=by simpa using hb
 go_wp2
 go_ret
 exact ⟨ai (by unfold aR;rw [if_neg hb]),B1⟩
end Go.Proofs.YtfimpohbpccjaaaGreat

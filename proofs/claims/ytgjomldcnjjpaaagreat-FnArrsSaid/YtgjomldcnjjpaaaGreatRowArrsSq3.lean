/-
 The walk of the laws' own comparison of slices of byte: it tells whether two slices read alike. Condition: at most 2097152 elements in the first.
-/
import Derived.Test.YtgjomldcnjjpaaaGreatRowArrsSq1
import Derived.Test.YtgjomldcnjjpaaaGreatRows

set_option maxRecDepth 100000
set_option maxHeartbeats 8000000
set_option linter.unusedSimpArgs false

namespace Go.Proofs.YtgjomldcnjjpaaaGreat
open Go.RowKit

def bL (n s:Int):Bool:=inB n 3 5&&inB s 1 8
def aN (n s:Int):Int:=if bL n s=true then s*(n-1) else 0
def bJ (n s t:Int):Bool:=bL n s&&inB t 0 (s-1)
def eS (n s t:Int):Int:=if bJ n s t=true then n-1-t % n else -1
def gy (n s t i:Int):Bool:=bJ n s t&&inB i 0 (n-2)
def fX (n s t i:Int):Int:=if gy n s t i=true then (n-1-t % n+1+i) % n else -1
def bU (n s b:Int):Bool:=inB b 0 (aN n s-1)
def aO (n s b:Int):Int:=if bU n s b=true then b / (n-1) else -1
def ch (n s b:Int):Int:=if bU n s b=true then b % (n-1) else -1
def gE (n s t i:Int):Int:=if gy n s t i=true then t*(n-1)+i else -1
theorem aG {x l m:Int}:inB x l m=true ↔ l<=x/\x<=m:=by unfold inB;simp
theorem gf {x l m:Int}:inB x l m=false ↔ ¬(l<=x/\x<=m):=by rw [←aG];simp
theorem aB {n s:Int}:bL n s=true ↔ 3<=n/\n<=5/\1<=s/\s<=8:=by unfold bL;rw [Bool.and_eq_true,aG,aG,and_assoc]
theorem gZ {n s:Int} (h:bL n s=true):2<=s*(n-1)/\s*(n-1)<=32:=by
 obtain ⟨h1,h2,h3,h4⟩:=aB.1 h;have:n=3∨n=4∨n=5:=by omega
 rcases this with rfl|rfl|rfl<;>omega
theorem fD {n s:Int} (h:bL n s=true):aN n s=s*(n-1):=by unfold aN;rw [if_pos h]
theorem eJ {n s:Int} (h:bL n s=false):aN n s=0:=by unfold aN;rw [if_neg (by simp [h])]
theorem dP (n s:Int):0<=aN n s/\aN n s<=32:=by
 by_cases h:bL n s=true
 . rw [fD h]
   have:=gZ h;omega
 rw [eJ (by simpa using h)];omega
def bK (w:World) (B:Nat) (T:TypeId) (n s:Int):Prop:=w.heap[B]?=some (.cells #[.int .i64 n,.int .i64 s] T (0,0))
theorem bK.cells {w:World} {B:Nat} {T:TypeId} {n s:Int} (h:bK w B T n s):w.cell? ⟨B,0,none⟩=some (.int .i64 n)/\w.cell? ⟨B,1,none⟩=some (.int .i64 s):=
 ⟨cell_of_row w B 0 _ T (0,0) h,cell_of_row w B 1 _ T (0,0) h⟩
theorem bK.frozen {w:World} {B:Nat} {T:TypeId} {n s:Int} (h:bK w B T n s) (j:Nat):w.frozen? ⟨B,j,none⟩=false:=frozen_of_row w B j _ T h
theorem bK.new (w:World) (T:TypeId) (n s:Int):bK (w.alloc (.cells #[.int .i64 n,.int .i64 s] T)) w.heap.size T n s:=heap_alloc_new w _
theorem bK.lt {w:World} {B:Nat} {T:TypeId} {n s:Int} (h:bK w B T n s):B<w.heap.size:=(Array.getElem?_eq_some_iff.1 h).1
theorem bK.below {w w':World} {B N:Nat} {T:TypeId} {n s:Int} (h:bK w B T n s) (hb:Below N w w') (hN:B<N):bK w' B T n s:=(hb.block B hN).trans h
theorem bK.drew {w:World} {B:Nat} {T:TypeId} {n s:Int} (h:bK w B T n s):bK w.drew B T n s:=h
theorem bK.set2 {w:World} {B:Nat} {T:TypeId} {n s:Int} (h:bK w B T n s) (a c:Int):bK ((w.setCell ⟨B,0,none⟩ (.int .i64 a)).setCell ⟨B,1,none⟩ (.int .i64 c)) B T a c:=by
 have h1:(w.setCell ⟨B,0,none⟩ (.int .i64 a)).heap[B]?=some (.cells #[.int .i64 a,.int .i64 s] T (0,0)):=heap_setCell_same w B 0 _ _ _ h;exact heap_setCell_same _ B 1 _ _ _ h1
theorem dQ (w:World) (n s:Int):Calls Tryz.prog 24 #[.agg #[.int .i64 n,.int .i64 s]] w fun e w'=>e=.returned (.bool (bL n s))/\Below w.heap.size w w':=by
 have hA:=af w (.cells #[.int .i64 n,.int .i64 s] 25);obtain ⟨k0,k1⟩:=(bK.new w 25 n s).cells;by_cases h1:3<=n
 . by_cases h2:n<=5
   . by_cases h3:1<=s
     . by_cases h4:s<=8
       . go_enter Tryz.func24,Tryz.ntmps24
         go_wp2
         go_ret
         exact ⟨ah (by symm;rw [aB];omega),hA⟩
       go_enter Tryz.func24,Tryz.ntmps24
       go_wp2
       go_ret
       exact ⟨ah (by symm;rw [←Bool.not_eq_true,aB];omega),hA⟩
     go_enter Tryz.func24,Tryz.ntmps24
     go_wp2
     go_ret
     exact ⟨ah (by symm;rw [←Bool.not_eq_true,aB];omega),hA⟩
   go_enter Tryz.func24,Tryz.ntmps24
   go_wp2
   go_ret
   exact ⟨ah (by symm;rw [←Bool.not_eq_true,aB];omega),hA⟩
 go_enter Tryz.func24,Tryz.ntmps24
 go_wp2
 go_ret
 exact ⟨ah (by symm;rw [←Bool.not_eq_true,aB];omega),hA⟩
theorem eu (w:World) (n s:Int):Calls Tryz.prog 33 #[.agg #[.int .i64 n,.int .i64 s]] w fun e w'=>e=.returned (.bool (bL n s))/\Below w.heap.size w w':=by
 have hA:=af w (.cells #[.int .i64 n,.int .i64 s] 25);obtain ⟨k0,k1⟩:=(bK.new w 25 n s).cells;by_cases h1:inB n 3 5=true
 . go_enter Tryz.func33,Tryz.ntmps33
   go_wp2_with fail
   refine (aE _ _ _ _).mono ?_
   rintro e w1 ⟨rfl,rfl⟩;go_wp2_with fail
   refine (aE _ _ _ _).mono ?_
   rintro e w1 ⟨rfl,rfl⟩;go_wp2
   go_ret
   exact ⟨ah (by unfold bL;rw [h1];rfl),hA⟩
 have h1:inB n 3 5=false:=by simpa using h1
 go_enter Tryz.func33,Tryz.ntmps33
 go_wp2_with fail
 refine (aE _ _ _ _).mono ?_
 rintro e w1 ⟨rfl,rfl⟩;go_wp2
 go_ret
 exact ⟨ah (by unfold bL;rw [h1];rfl),hA⟩
theorem nj (n:Int) (w:World):Calls Tryz.prog 98 #[.int .i64 n] w fun e w'=>e=.returned (.bool (isW n))/\w'=w:=by
 unfold isW;by_cases h0:0<=n
 . by_cases h1:n<=65535
   . go_enter Tryz.func98,Tryz.ntmps98
     go_wp2
     go_ret
     exact ⟨ah (by simp [h0,h1]),rfl⟩
   go_enter Tryz.func98,Tryz.ntmps98
   go_wp2
   go_ret
   exact ⟨ah (by symm;simp;omega),rfl⟩
 go_enter Tryz.func98,Tryz.ntmps98
 go_wp2
 go_ret
 exact ⟨ah (by symm;simp;omega),rfl⟩
theorem nl (n:Int) (w:World):Calls Tryz.prog 100 #[.int .i64 n] w fun e w'=>e=.returned (.bool (isW n))/\w'=w:=by
 go_enter Tryz.func100,Tryz.ntmps100
 go_wp2_with (go_at_call 34;refine (aE _ _ _ _).mono ?_;rintro e w' ⟨rfl,rfl⟩)
 go_ret
 exact ⟨rfl,rfl⟩
theorem dX (w:World) (a:Option Addr) (len cap:Nat) (zs:List Int) (hz:zs.length=len) (hr:aJ .i64 w a zs) (hlen:len<=2097152):
 Calls Tryz.prog 71 #[.slice a len cap] w fun e w'=>e=.returned (.bool (dg zs))/\w'=w:=by
 go_enter Tryz.func71,Tryz.ntmps71
 go_wp2
 go_loop [3] (fun i=>∃j:Nat,j<=len/\i=.int .i64 j/\dg (zs.take j)=true) (fun i=>len-(intOf i).toNat)
 case atStart=>exact ⟨0,Nat.zero_le _,rfl,rfl⟩
 obtain ⟨j,hj,rfl,ht⟩:=hrel;by_cases hlt:j<len
 . rcases hr.cases with h0|⟨b,off,rfl,hbl,hc⟩
   . omega
   have hc1:=hc j (by omega);have hd:=pO (zs:=zs) (j:=j) (by omega) rfl;generalize zs.getD j 0=x at hc1 hd;have HT:Hid (dg (zs.take j)=true):=ht;clear hc ht;by_cases hx:isW x=true
   . have HD:=hd.1 hx HT.out
     clear hd;go_wp2_with (go_at_call 100;refine (nl _ _).mono ?_;rintro e w' ⟨rfl,rfl⟩)
     go_round
     case rel=>exact ⟨j+1,by omega,by go_num,HD⟩
     case measure=>simp [intOf];omega
   have hx:isW x=false:=by simpa using hx
   have HD:=hd.2 hx;clear hd;go_wp2_with (go_at_call 100;refine (nl _ _).mono ?_;rintro e w' ⟨rfl,rfl⟩)
   go_ret
   exact ⟨ah (by rw [HD]),rfl⟩
 go_wp2
 go_ret
 have e:j=len:=by omega
 subst e;rw [List.take_of_length_le (by omega)] at ht;exact ⟨ah ht.symm,rfl⟩
theorem ew (w:World) (a:Option Addr) (len cap:Nat) (zs:List Int) (hz:zs.length=len) (hr:aJ .i64 w a zs) (hlen:len<=2097152):
 Calls Tryz.prog 99 #[.slice a len cap] w fun e w'=>e=.returned (.bool (cR zs))/\aP w w':=by
 by_cases h:len<=12
 . go_enter Tryz.func99,Tryz.ntmps99
   go_wp2_with (go_at_call 71;refine (dX _ _ _ _ zs hz hr hlen).mono ?_;rintro e w' ⟨rfl,rfl⟩)
   go_ret
   exact ⟨ah (by simp [cR,hz,h]),aP.refl _⟩
 go_enter Tryz.func99,Tryz.ntmps99
 go_wp2
 go_ret
 exact ⟨ah (by simp [cR,hz,h]),aP.refl _⟩
theorem cN (w:World) (a:Option Addr) (len cap:Nat) (zs:List Int) (hz:zs.length=len) (hr:aJ .i64 w a zs) (hlen:len<=2097152):
 Calls Tryz.prog 69 #[.slice a len cap] w fun e w'=>e=.returned (.bool (cR zs))/\aP w w':=by
 by_cases h:len<=12
 . go_enter Tryz.func69,Tryz.ntmps69
   go_wp2
   go_loop [10] (fun i=>∃j:Nat,j<=len/\i=.int .i64 j/\dg (zs.take j)=true) (fun i=>len-(intOf i).toNat)
   case atStart=>exact ⟨0,Nat.zero_le _,rfl,rfl⟩
   obtain ⟨j,hj,rfl,ht⟩:=hrel;by_cases hlt:j<len
   . rcases hr.cases with h0|⟨b,off,rfl,hbl,hc⟩
     . omega
     have hc1:=hc j (by omega);have hd:=pO (zs:=zs) (j:=j) (by omega) rfl;generalize zs.getD j 0=x at hc1 hd;have HT:Hid (dg (zs.take j)=true):=ht;clear hc ht;by_cases hx:isW x=true
     . have HD:=hd.1 hx HT.out
       clear hd;go_wp2_with (go_at_call 98;refine (nj _ _).mono ?_;rintro e w' ⟨rfl,rfl⟩)
       go_round
       case rel=>exact ⟨j+1,by omega,by go_num,HD⟩
       case measure=>simp [intOf];omega
     have hx:isW x=false:=by simpa using hx
     have HD:=hd.2 hx;clear hd;go_wp2_with (go_at_call 98;refine (nj _ _).mono ?_;rintro e w' ⟨rfl,rfl⟩)
     go_ret
     exact ⟨ah (by simp [cR,HD]),aP.refl _⟩
   go_wp2
   go_ret
   have e:j=len:=by omega
   subst e;rw [List.take_of_length_le (by omega)] at ht;exact ⟨ah (by simp [cR,hz,h,ht]),aP.refl _⟩
 go_enter Tryz.func69,Tryz.ntmps69
 go_wp2
 go_ret
 exact ⟨ah (by simp [cR,hz,h]),aP.refl _⟩
def inL (zs:List Int) (n:Int):Bool:=zs.any fun x=>decide (x=n)
theorem ry {zs:List Int} {n x:Int} {j:Nat} (h:j<zs.length) (hx:zs.getD j 0=x):(x=n->inL zs n=true)/\(x≠n->inL (zs.take j) n=false->inL (zs.take (j+1)) n=false):=by
 have e:zs[j]=x:=by rw [←hx];simp [List.getElem?_eq_getElem h]
 refine ⟨fun h1=>?_,fun h1 h2=>?_⟩
 . unfold inL
   rw [List.any_eq_true];exact ⟨x,by rw [←e];exact List.getElem_mem h,by simp [h1]⟩
 unfold inL at *;rw [List.take_succ_eq_append_getElem h,List.any_append,h2,e];simp [h1]
theorem lD (w:World) (a:Option Addr) (len cap:Nat) (zs:List Int) (n:Int) (hz:zs.length=len) (hr:aJ .i64 w a zs) (hlen:len<=2097152):
 Calls Tryz.prog 138 #[.slice a len cap,.int .i64 n] w fun e w'=>e=.returned (.bool (inL zs n))/\aP w w':=by
 go_enter Tryz.func138,Tryz.ntmps138
 go_wp2
 go_loop [5] (fun i=>∃j:Nat,j<=len/\i=.int .i64 j/\inL (zs.take j) n=false) (fun i=>len-(intOf i).toNat)
 case atStart=>exact ⟨0,Nat.zero_le _,rfl,rfl⟩
 obtain ⟨j,hj,rfl,ht⟩:=hrel;by_cases hlt:j<len
 . rcases hr.cases with h0|⟨b,off,rfl,hbl,hc⟩
   . omega
   have hc1:=hc j (by omega);have hd:=ry (zs:=zs) (n:=n) (j:=j) (by omega) rfl;generalize zs.getD j 0=x at hc1 hd;have HT:=aa ht;clear hc ht;by_cases hx:x=n
   . have HD:=aa (hd.1 hx)
     clear hd;go_wp2
     go_ret
     exact ⟨ah HD.out.symm,aP.refl _⟩
   have HD:=aa (hd.2 hx HT.out);clear hd;go_wp2
   go_round
   case rel=>exact ⟨j+1,by omega,by go_num,HD.out⟩
   case measure=>simp [intOf];omega
 go_wp2
 go_ret
 have e:j=len:=by omega
 subst e;rw [List.take_of_length_le (by omega)] at ht;exact ⟨ah ht.symm,aP.refl _⟩
def fJ (l:List Int):Int:=l.foldl (fun n x=>bits BinOp.xor IntKind.i64 n x) 0
theorem pV {zs:List Int} {j:Nat} {x:Int} (h:j<zs.length) (hx:zs.getD j 0=x):bits BinOp.xor IntKind.i64 (fJ (zs.take j)) x=fJ (zs.take (j+1)):=by
 have e:zs[j]=x:=by rw [←hx];simp [List.getElem?_eq_getElem h]
 unfold fJ;rw [List.take_succ_eq_append_getElem h,List.foldl_append,e];rfl
def bv (n:Int):BitVec 64:=BitVec.ofInt 64 n
def oZ (v:BitVec 64):Int:=IntKind.i64.wrap (v.toNat:Int)
theorem qB (a b:Int):bits BinOp.xor IntKind.i64 a b=oZ (bv a ^^^ bv b):=rfl
theorem qC (v:BitVec 64):bv (oZ v)=v:=by
 apply BitVec.eq_of_toNat_eq
 have:=v.isLt;unfold bv oZ;rw [BitVec.toNat_ofInt,IntKind.wrap_i64];omega
def uD (l:List Int):BitVec 64:=l.foldl (fun v x=>v ^^^ bv x) 0
theorem vJ (l:List Int) (v:BitVec 64):l.foldl (fun n x=>bits BinOp.xor IntKind.i64 n x) (oZ v)=oZ (l.foldl (fun v x=>v ^^^ bv x) v):=by
 induction l generalizing v with
 | nil=>rfl
 | cons x l ih=>rw [List.foldl_cons,List.foldl_cons,qB,qC,ih]
theorem xt (l:List Int):fJ l=oZ (uD l):=by
 have h:oZ 0=0:=by decide
 unfold fJ uD;rw [←h,vJ]
def dO (zs:List Int) (k:Int) (j:Nat):Int:=(List.range j).foldl (fun (n:Int) (i:Nat)=>if (i:Int)=k then n else bits BinOp.xor IntKind.i64 n (zs.getD i 0)) 0
theorem jJ (zs:List Int) (k:Int) (j:Nat):dO zs k (j+1)=if (j:Int)=k then dO zs k j else bits BinOp.xor IntKind.i64 (dO zs k j) (zs.getD j 0):=by
 unfold dO;rw [List.range_succ,List.foldl_append];rfl
theorem xv (zs:List Int) (k:Int) (j:Nat) (hj:j<=zs.length):∃v,dO zs k j=oZ v/\uD (zs.take j)=if 0<=k/\k<j then v ^^^ bv (zs.getD k.toNat 0) else v:=by
 induction j with
 | zero=>exact ⟨0,(by decide:(0:Int)=oZ 0),by rw [if_neg (by omega)];rfl⟩
 | succ j ih=>
  obtain ⟨v,hv,hx⟩:=ih (by omega);have hs:uD (zs.take (j+1))=uD (zs.take j) ^^^ bv (zs.getD j 0):=by
   unfold uD;rw [List.take_succ_eq_append_getElem (by omega),List.foldl_append];simp [List.getElem?_eq_getElem (show j<zs.length by omega)]
  rw [jJ,hs,hx];by_cases hk:(j:Int)=k
  . subst hk
    refine ⟨v,by rw [if_pos rfl];exact hv,?_⟩
    rw [if_neg (by omega),if_pos (by omega),Int.toNat_natCast]
  refine ⟨v ^^^ bv (zs.getD j 0),by rw [if_neg hk,hv,qB,qC],?_⟩
  by_cases h1:0<=k/\k<j
  . rw [if_pos h1,if_pos (by omega),BitVec.xor_assoc,BitVec.xor_comm (bv (zs.getD k.toNat 0)),BitVec.xor_assoc]
  rw [if_neg h1,if_neg (by omega)]
theorem vK (zs:List Int) (k:Int):dO zs k zs.length=if 0<=k/\k<zs.length then bits BinOp.xor IntKind.i64 (fJ zs) (zs.getD k.toNat 0) else fJ zs:=by
 obtain ⟨v,hv,hx⟩:=xv zs k zs.length (Nat.le_refl _);rw [List.take_length] at hx;rw [hv,xt,hx];by_cases h:0<=k/\k<zs.length
 . rw [if_pos h,if_pos h,qB,qC,BitVec.xor_assoc,BitVec.xor_self,BitVec.xor_zero]
 rw [if_neg h,if_neg h]
theorem nG {n s t:Int}:bJ n s t=true ↔ bL n s=true/\0<=t/\t<=s-1:=by unfold bJ;rw [Bool.and_eq_true,aG]
theorem dD (w:World) (n s:Int):Calls Tryz.prog 110 #[.agg #[.int .i64 n,.int .i64 s]] w fun e w'=>e=.returned (.int .i64 (aN n s))/\Below w.heap.size w w':=by
 have hA:=af w (.cells #[.int .i64 n,.int .i64 s] 25);have X:=bK.new w 25 n s;obtain ⟨k0,k1⟩:=X.cells;have zA:=X.lt;go_enter Tryz.func110,Tryz.ntmps110
 go_wp2_with fail
 refine (eu _ _ _).mono ?_
 rintro e w1 ⟨rfl,b1⟩;have X1:=X.below b1 zA;obtain ⟨p0,p1⟩:=X1.cells;have B1:=Below.andThen hA b1;clear k0 k1 X b1 hA zA;by_cases hg:bL n s=true
 . obtain ⟨h1,h2,h3,h4⟩:=aB.1 hg
   have hm:=gZ hg;have HB:=aa (fD hg);have gw:IntKind.i64.wrap (s*(n-1))=s*(n-1):=IntWalk.i64_in _ (by omega);go_wp2
   go_ret
   exact ⟨aF HB.out.symm,B1⟩
 have hg:bL n s=false:=by simpa using hg
 go_wp2
 go_ret
 exact ⟨aF (eJ hg).symm,B1⟩
theorem kh (w:World) (n s t:Int):Calls Tryz.prog 160 #[.agg #[.int .i64 n,.int .i64 s],.int .i64 t] w fun e w'=>e=.returned (.bool (bJ n s t))/\Below w.heap.size w w':=by
 have hA:=af w (.cells #[.int .i64 n,.int .i64 s] 25);have X:=bK.new w 25 n s;obtain ⟨k0,k1⟩:=X.cells;have zA:=X.lt;go_enter Tryz.func160,Tryz.ntmps160
 go_wp2_with fail
 refine (eu _ _ _).mono ?_
 rintro e w1 ⟨rfl,b1⟩;have X1:=X.below b1 zA;obtain ⟨p0,p1⟩:=X1.cells;have B1:=Below.andThen hA b1;clear k0 k1 X b1 hA zA;by_cases hg:bL n s=true
 . obtain ⟨h1,h2,h3,h4⟩:=aB.1 hg
   go_wp2_with fail
   refine (aE _ _ _ _).mono ?_
   rintro e w2 ⟨rfl,rfl⟩;go_wp2
   go_ret
   exact ⟨ah (by unfold bJ;rw [hg];rfl),B1⟩
 have hg:bL n s=false:=by simpa using hg
 go_wp2
 go_ret
 exact ⟨ah (by unfold bJ;rw [hg];rfl),B1⟩
theorem iB (w:World) (n s t:Int):Calls Tryz.prog 157 #[.agg #[.int .i64 n,.int .i64 s],.int .i64 t] w fun e w'=>e=.returned (.int .i64 (eS n s t))/\Below w.heap.size w w':=by
 have hA:=af w (.cells #[.int .i64 n,.int .i64 s] 25);have X:=bK.new w 25 n s;obtain ⟨k0,k1⟩:=X.cells;have zA:=X.lt;go_enter Tryz.func157,Tryz.ntmps157
 go_wp2_with fail
 refine (kh _ _ _ _).mono ?_
 rintro e w1 ⟨rfl,b1⟩;have X1:=X.below b1 zA;obtain ⟨p0,p1⟩:=X1.cells;have B1:=Below.andThen hA b1;clear k0 k1 X b1 hA zA;by_cases hg:bJ n s t=true
 . obtain ⟨hg1,h1,h2⟩:=nG.1 hg
   obtain ⟨g1,g2,g3,g4⟩:=aB.1 hg1;have hm1:0<=t % n:=Int.emod_nonneg _ (by omega);have hm2:t % n<n:=Int.emod_lt_of_pos _ (by omega);have HB:Hid (eS n s t=n-1-t % n):=by unfold Hid eS;rw [if_pos hg]
   go_wp2_with fail
   go_quiet (fail)
   go_wp2
   go_ret
   exact ⟨aF (by rw [HB.out]),Below.andSame B1 ((aP.refl _).drewN _)⟩
 have hg':bJ n s t=false:=by simpa using hg
 go_wp2
 go_ret
 exact ⟨aF (by unfold eS;rw [if_neg hg]),B1⟩
theorem nH (w:World) (n s t i:Int):Calls Tryz.prog 154 #[.agg #[.int .i64 n,.int .i64 s],.int .i64 t,.int .i64 i] w fun e w'=>e=.returned (.int .i64 (fX n s t i))/\Below w.heap.size w w':=by
 have hA:=af w (.cells #[.int .i64 n,.int .i64 s] 25);have X:=bK.new w 25 n s;obtain ⟨k0,k1⟩:=X.cells;have zA:=X.lt;go_enter Tryz.func154,Tryz.ntmps154
 go_wp2_with fail
 refine (kh _ _ _ _).mono ?_
 rintro e w1 ⟨rfl,b1⟩;have X1:=X.below b1 zA;have B1:=Below.andThen hA b1;clear k0 k1 X b1 hA zA;obtain ⟨k0,k1⟩:=X1.cells;by_cases hs:bJ n s t=true
 . obtain ⟨hg,h1,h2⟩:=nG.1 hs
   obtain ⟨g1,g2,g3,g4⟩:=aB.1 hg;go_wp2_with fail
   refine (aE _ _ _ _).mono ?_
   rintro e w2 ⟨rfl,rfl⟩;by_cases hi:inB i 0 (n-2)=true
   . obtain ⟨h3,h4⟩:=aG.1 hi
     have hm1:0<=t % n:=Int.emod_nonneg _ (by omega);have hm2:t % n<n:=Int.emod_lt_of_pos _ (by omega);have HP:eS n s t=n-1-t % n:=by unfold eS;rw [if_pos hs]
     have HPar:∀W:World,Calls Tryz.prog 157 #[.agg #[.int .i64 n,.int .i64 s],.int .i64 t] W fun e w'=>e=.returned (.int .i64 (n-1-t % n))/\Below W.heap.size W w':=by
      intro W;rw [←HP];exact iB _ _ _ _
     have HD:Hid (fX n s t i=(n-1-t % n+1+i) % n):=by unfold Hid fX gy;rw [hs,hi];rfl
     clear HP;generalize t % n=r at hm1 hm2 HPar HD;have e1:¬n=0:=by omega
     have e2:(n-1-r+1+i).tmod n=(n-1-r+1+i) % n:=Int.tmod_eq_emod_of_nonneg (by omega);have e3:IntKind.i64.wrap (n-1-r+1)=n-1-r+1:=IntWalk.i64_in _ (by omega);have e4:IntKind.i64.wrap (n-1-r+1+i)=n-1-r+1+i:=IntWalk.i64_in _ (by omega);go_wp2_with fail
     go_region_held3 (fun w'=>w'.cell? ⟨w.heap.size,0,none⟩=some (.int .i64 n)/\w'.cell? ⟨w.heap.size,1,none⟩=some (.int .i64 s))
      (first|(exact X2.cells)|(exact X1.cells)|go_keep)
      (first
       | (go_at_call 157;refine (HPar _).mono ?_;rintro e w2 ⟨rfl,b2⟩;have B2:=Below.andThen B1.drew b2;have X2:=X1.drew.below b2 X1.lt))
     go_wp2
     go_ret
     exact ⟨aF HD.out.symm,B2⟩
   have hi':inB i 0 (n-2)=false:=by simpa using hi
   go_wp2
   go_ret
   exact ⟨aF (by unfold fX gy;rw [hs,hi'];rfl),B1⟩
 have hs':bJ n s t=false:=by simpa using hs
 go_wp2
 go_ret
 exact ⟨aF (by unfold fX gy;rw [hs'];rfl),B1⟩
theorem mo {n s b:Int} (h:bU n s b=true):bL n s=true/\0<=b/\b<aN n s:=by
 unfold bU at h;rw [aG] at h;by_cases hg:bL n s=true
 . exact ⟨hg,by omega,by omega⟩
 rw [eJ (by simpa using hg)] at h;omega
theorem lF (w:World) (n s b:Int):Calls Tryz.prog 127 #[.agg #[.int .i64 n,.int .i64 s],.int .i64 b] w fun e w'=>e=.returned (.int .i64 (aO n s b))/\Below w.heap.size w w':=by
 have hA:=af w (.cells #[.int .i64 n,.int .i64 s] 25);have X:=bK.new w 25 n s;obtain ⟨k0,k1⟩:=X.cells;have zA:=X.lt;have hr:=dP n s;have HR:Hid (inB b 0 (aN n s-1)=bU n s b):=rfl;go_enter Tryz.func127,Tryz.ntmps127
 go_wp2_with fail
 refine (dD _ _ _).mono ?_
 rintro e w1 ⟨rfl,b1⟩;have X1:=X.below b1 zA;have B1:=Below.andThen hA b1;clear k0 k1 X b1 hA zA;obtain ⟨k0,k1⟩:=X1.cells;go_wp2_with fail
 refine (aE _ _ _ _).mono ?_
 rintro e w2 ⟨rfl,rfl⟩;rw [HR.out];by_cases hb:bU n s b=true
 . obtain ⟨hg,h0,h1⟩:=mo hb
   obtain ⟨g1,g2,g3,g4⟩:=aB.1 hg;have HS:Hid (aO n s b=b / (n-1)):=by unfold Hid aO;rw [if_pos hb]
   have d1:0<=b / (n-1):=Int.ediv_nonneg (by omega) (by omega);have d2:b / (n-1)<=b:=Int.ediv_le_self _ (by omega);have e1:¬n-1=0:=by omega
   have e2:IntKind.i64.wrap (b.tdiv (n-1))=b / (n-1):=by rw [Int.tdiv_eq_ediv_of_nonneg h0];exact IntWalk.i64_in _ (by omega)
   go_wp2
   go_ret
   exact ⟨aF HS.out.symm,B1⟩
 have hb':bU n s b=false:=by simpa using hb
 go_wp2
 go_ret
 exact ⟨aF (by unfold aO;rw [if_neg hb]),B1⟩
theorem mS (w:World) (n s b:Int):Calls Tryz.prog 129 #[.agg #[.int .i64 n,.int .i64 s],.int .i64 b] w fun e w'=>e=.returned (.int .i64 (ch n s b))/\Below w.heap.size w w':=by
 have hA:=af w (.cells #[.int .i64 n,.int .i64 s] 25);have X:=bK.new w 25 n s;obtain ⟨k0,k1⟩:=X.cells;have zA:=X.lt;have hr:=dP n s;have HR:Hid (inB b 0 (aN n s-1)=bU n s b):=rfl;go_enter Tryz.func129,Tryz.ntmps129
 go_wp2_with fail
 refine (dD _ _ _).mono ?_
 rintro e w1 ⟨rfl,b1⟩;have X1:=X.below b1 zA;have B1:=Below.andThen hA b1;clear k0 k1 X b1 hA zA;obtain ⟨k0,k1⟩:=X1.cells;go_wp2_with fail
 refine (aE _ _ _ _).mono ?_
 rintro e w2 ⟨rfl,rfl⟩;rw [HR.out];by_cases hb:bU n s b=true
 . obtain ⟨hg,h0,h1⟩:=mo hb
   obtain ⟨g1,g2,g3,g4⟩:=aB.1 hg;have HS:Hid (ch n s b=b % (n-1)):=by unfold Hid ch;rw [if_pos hb]
   have e1:¬n-1=0:=by omega
   have e3:b.tmod (n-1)=b % (n-1):=Int.tmod_eq_emod_of_nonneg h0;go_wp2
   go_ret
   exact ⟨aF HS.out.symm,B1⟩
 have hb':bU n s b=false:=by simpa using hb
 go_wp2
 go_ret
 exact ⟨aF (by unfold ch;rw [if_neg hb]),B1⟩
theorem cE (w:World) (n s:Int) (h1:3<=n) (h2:n<=5):Calls Tryz.prog 68 #[.agg #[.int .i64 n,.int .i64 s]] w fun e w'=>e=.returned (.int .i64 (n-1))/\Below w.heap.size w w':=by
 have hA:=af w (.cells #[.int .i64 n,.int .i64 s] 25);obtain ⟨k0,k1⟩:=(bK.new w 25 n s).cells;go_enter Tryz.func68,Tryz.ntmps68
 go_wp2
 go_ret
 exact ⟨aF (by first|rfl|omega),hA⟩
theorem fk (w:World) (n s:Int):Calls Tryz.prog 50 #[.agg #[.int .i64 n,.int .i64 s]] w fun e w'=>e=.returned (.int .i64 (aN n s))/\Below w.heap.size w w':=by
 have hA:=af w (.cells #[.int .i64 n,.int .i64 s] 25);have X:=bK.new w 25 n s;obtain ⟨k0,k1⟩:=X.cells;have zA:=X.lt;go_enter Tryz.func50,Tryz.ntmps50
 go_wp2_with fail
 refine (dQ _ _ _).mono ?_
 rintro e w1 ⟨rfl,b1⟩;have X1:=X.below b1 zA;have z1:=X1.lt;obtain ⟨p0,p1⟩:=X1.cells;have B1:=Below.andThen hA b1;clear k0 k1 X b1 hA zA;by_cases hg:bL n s=true
 . obtain ⟨h1,h2,h3,h4⟩:=aB.1 hg
   have hm:=gZ hg;have HB:=aa (fD hg);have gw:IntKind.i64.wrap (s*(n-1))=s*(n-1):=IntWalk.i64_in _ (by omega);go_wp2_with fail
   go_region_held3 (fun w'=>w'.cell? ⟨w.heap.size,0,none⟩=some (.int .i64 n)/\w'.cell? ⟨w.heap.size,1,none⟩=some (.int .i64 s))
    (first|(exact ⟨(b2.cell (p:=⟨w.heap.size,0,none⟩) z1).trans p0,(b2.cell (p:=⟨w.heap.size,1,none⟩) z1).trans p1⟩)|(exact ⟨p0,p1⟩)|go_keep)
    (first
     | (go_at_call 68;refine (cE _ _ _ h1 h2).mono ?_;rintro e w2 ⟨rfl,b2'⟩;have b2:Below w1.heap.size w1 w2:=(by exact (Below.refl w1.heap.size w1).drew.trans b2')))
   go_wp2
   go_ret
   exact ⟨aF (by rw [HB.out]),Below.andThen B1 b2⟩
 have hg:bL n s=false:=by simpa using hg
 go_wp2
 go_ret
 exact ⟨aF (eJ hg).symm,B1⟩
theorem ee {n s t:Int}:bJ n s t=true ↔ bL n s=true/\0<=t/\t<s:=by unfold bJ;rw [Bool.and_eq_true,aG];constructor<;>(rintro ⟨a,b⟩;exact ⟨a,by omega⟩)
theorem fQ {n s t:Int}:bJ n s t=false ↔ ¬(bL n s=true/\0<=t/\t<s):=by rw [←ee];simp
theorem bQ (w:World) (n s t:Int):Calls Tryz.prog 67 #[.agg #[.int .i64 n,.int .i64 s],.int .i64 t] w fun e w'=>e=.returned (.bool (bJ n s t))/\Below w.heap.size w w':=by
 have hA:=af w (.cells #[.int .i64 n,.int .i64 s] 25);have X:=bK.new w 25 n s;obtain ⟨k0,k1⟩:=X.cells;have zA:=X.lt;go_enter Tryz.func67,Tryz.ntmps67
 go_wp2_with fail
 refine (dQ _ _ _).mono ?_
 rintro e w1 ⟨rfl,b1⟩;have X1:=X.below b1 zA;obtain ⟨p0,p1⟩:=X1.cells;have B1:=Below.andThen hA b1;clear k0 k1 X b1 hA zA;by_cases hg:bL n s=true
 . by_cases h1:0<=t
   . by_cases h2:t<s
     . go_wp2
       go_ret
       exact ⟨ah (by symm;rw [ee];exact ⟨hg,h1,h2⟩),B1⟩
     go_wp2
     go_ret
     exact ⟨ah (by first|(exact (fQ.2 (by omega)).symm)|(rw [fQ.2 (by omega)];simp;omega)),B1⟩
   go_wp2
   go_ret
   exact ⟨ah (by first|(exact (fQ.2 (by omega)).symm)|(rw [fQ.2 (by omega)];simp;omega)),B1⟩
 have hg:bL n s=false:=by simpa using hg
 go_wp2
 go_ret
 exact ⟨ah (by symm;rw [fQ];simp [hg]),B1⟩
theorem lJ (w:World) (n s t:Int):Calls Tryz.prog 146 #[.agg #[.int .i64 n,.int .i64 s],.int .i64 t] w fun e w'=>e=.returned (.int .i64 (eS n s t))/\Below w.heap.size w w':=by
 have hA:=af w (.cells #[.int .i64 n,.int .i64 s] 25);have X:=bK.new w 25 n s;obtain ⟨k0,k1⟩:=X.cells;have zA:=X.lt;go_enter Tryz.func146,Tryz.ntmps146
 go_wp2_with fail
 refine (bQ _ _ _ _).mono ?_
 rintro e w1 ⟨rfl,b1⟩;have X1:=X.below b1 zA;obtain ⟨p0,p1⟩:=X1.cells;have B1:=Below.andThen hA b1;clear k0 k1 X b1 hA zA;by_cases hg:bJ n s t=true
 . obtain ⟨hg1,h1,h2⟩:=ee.1 hg
   obtain ⟨g1,g2,g3,g4⟩:=aB.1 hg1;have hm1:0<=t % n:=Int.emod_nonneg _ (by omega);have hm2:t % n<n:=Int.emod_lt_of_pos _ (by omega);have HB:Hid (eS n s t=n-1-t % n):=by unfold Hid eS;rw [if_pos hg]
   go_wp2_with fail
   go_quiet (fail)
   go_wp2
   go_ret
   exact ⟨aF (by rw [HB.out]),Below.andSame B1 ((aP.refl _).drewN _)⟩
 have hg':bJ n s t=false:=by simpa using hg
 go_wp2
 go_ret
 exact ⟨aF (by unfold eS;rw [if_neg hg]),B1⟩
theorem eR {n s b:Int}:bU n s b=true ↔ 0<=b/\b<aN n s:=by unfold bU;rw [aG];omega
theorem nQ {n s b:Int}:bU n s b=false ↔ ¬(0<=b/\b<aN n s):=by rw [←eR];simp
theorem jP {n s b:Int} (h:bU n s b=true):bL n s=true:=by
 rw [eR] at h;by_cases hg:bL n s=true
 . exact hg
 rw [eJ (by simpa using hg)] at h;omega
theorem jf (w:World) (n s b:Int):Calls Tryz.prog 102 #[.agg #[.int .i64 n,.int .i64 s],.int .i64 b] w fun e w'=>e=.returned (.agg #[.int .i64 (aO n s b),.int .i64 (ch n s b)])/\Below w.heap.size w w':=by
 have hA:Below w.heap.size w ((w.alloc (.cells #[.int .i64 n,.int .i64 s] 25)).alloc (.cells #[.int .i64 0,.int .i64 0] 125)):=(af w _).alloc (by simp) _;have X:bK ((w.alloc (.cells #[.int .i64 n,.int .i64 s] 25)).alloc (.cells #[.int .i64 0,.int .i64 0] 125)) w.heap.size 25 n s:=(bK.new w 25 n s).below (af _ _) (by simp);have Y:bK ((w.alloc (.cells #[.int .i64 n,.int .i64 s] 25)).alloc (.cells #[.int .i64 0,.int .i64 0] 125)) (w.heap.size+1) 125 0 0:=by
  have:=bK.new (w.alloc (.cells #[.int .i64 n,.int .i64 s] 25)) 125 0 0;simpa using this
 obtain ⟨k0,k1⟩:=X.cells;obtain ⟨j0,j1⟩:=Y.cells;have f0:=Y.frozen 0;have f1:=Y.frozen 1;go_enter Tryz.func102,Tryz.ntmps102
 by_cases h0:0<=b
 . go_wp2_with fail
   refine (fk _ _ _).mono ?_
   rintro e w1 ⟨rfl,b1⟩;have hz:w.heap.size+1<((w.alloc (.cells #[.int .i64 n,.int .i64 s] 25)).alloc (.cells #[.int .i64 0,.int .i64 0] 125)).heap.size:=by simp
   have X1:=X.below b1 (by omega);have Y1:=Y.below b1 hz;have B1:=hA.trans (b1.mono hA.size);have hr:=dP n s;clear k0 k1 j0 j1 f0 f1 X Y hA b1 hz;obtain ⟨k0,k1⟩:=X1.cells;obtain ⟨j0,j1⟩:=Y1.cells;have f0:=Y1.frozen 0;have f1:=Y1.frozen 1;have z1:=Y1.lt;by_cases h1:b<aN n s
   . have hb:=eR.2 ⟨h0,h1⟩
     obtain ⟨g1,g2,g3,g4⟩:=aB.1 (jP hb);have HS:Hid (aO n s b=b / (n-1)):=by unfold Hid aO;rw [if_pos hb]
     have HI:Hid (ch n s b=b % (n-1)):=by unfold Hid ch;rw [if_pos hb]
     have d1:0<=b / (n-1):=Int.ediv_nonneg (by omega) (by omega);have d2:b / (n-1)<=b:=Int.ediv_le_self _ (by omega);have d3:0<=b % (n-1):=Int.emod_nonneg _ (by omega);have d4:b % (n-1)<n-1:=Int.emod_lt_of_pos _ (by omega);have e1:¬n-1=0:=by omega
     have e3:b.tmod (n-1)=b % (n-1):=Int.tmod_eq_emod_of_nonneg h0;have e2:IntKind.i64.wrap (b.tdiv (n-1))=b / (n-1):=by rw [Int.tdiv_eq_ediv_of_nonneg h0];exact IntWalk.i64_in _ (by omega)
     go_wp2_with fail
     go_region_held3 (fun w'=>w'.cell? ⟨w.heap.size,0,none⟩=some (.int .i64 n)/\w'.cell? ⟨w.heap.size,1,none⟩=some (.int .i64 s))
      (first|(exact X3.cells)|(exact X2.cells)|(exact X1.cells)|go_keep)
      (first
       | (go_at_call 68;refine (cE _ _ _ g1 g2).mono ?_;rintro e w3 ⟨rfl,b3⟩;have B3:=Below.andThen B2 b3;have X3:=X2.below b3 X2.lt;have Y3:=Y2.below b3 Y2.lt;obtain ⟨k0,k1⟩:=X3.cells;obtain ⟨j0,j1⟩:=Y3.cells;have f0:=Y3.frozen 0;have f1:=Y3.frozen 1)
       | (go_at_call 68;refine (cE _ _ _ g1 g2).mono ?_;rintro e w2 ⟨rfl,b2⟩;have B2:=Below.andThen B1.drew b2;have X2:=X1.drew.below b2 X1.lt;have Y2:=Y1.drew.below b2 Y1.lt;obtain ⟨k0,k1⟩:=X2.cells))
     have Z:=Y3.set2 (b / (n-1)) (b % (n-1));have BZ:=(B3.setCell (p:=⟨w.heap.size+1,0,none⟩) (by simp) (.int .i64 (b / (n-1)))).setCell (p:=⟨w.heap.size+1,1,none⟩) (by simp) (.int .i64 (b % (n-1)));generalize ((w3.setCell ⟨w.heap.size+1,0,none⟩ (.int .i64 (b / (n-1)))).setCell ⟨w.heap.size+1,1,none⟩ (.int .i64 (b % (n-1))))=w4 at Z BZ ⊢;obtain ⟨q0,q1⟩:=Z.cells;go_wp2
     refine bodyPost_ret (v:=.agg #[.int .i64 (b / (n-1)),.int .i64 (b % (n-1))]) (by simp [results,Tryz.results102,go_sem,q0,q1]) rfl ?_
     exact ⟨by rw [HS.out,HI.out],BZ⟩
   have HN:bU n s b=false:=nQ.2 (fun h=>h1 h.2);have Z:=Y1.set2 (-1) (-1);have BZ:=(B1.setCell (p:=⟨w.heap.size+1,0,none⟩) (by simp) (.int .i64 (-1))).setCell (p:=⟨w.heap.size+1,1,none⟩) (by simp) (.int .i64 (-1));obtain ⟨q0,q1⟩:=Z.cells;go_wp2
   refine bodyPost_ret (v:=.agg #[.int .i64 (-1),.int .i64 (-1)]) (by simp [results,Tryz.results102,go_sem,q0,q1]) rfl ?_
   exact ⟨by unfold aO ch;rw [HN];rfl,BZ⟩
 have HN:bU n s b=false:=nQ.2 (fun h=>h0 h.1);clear j0 j1 k0 k1 f0 f1;go_wp2
 refine bodyPost_ret (v:=.agg #[.int .i64 (-1),.int .i64 (-1)]) (by simp [results,Tryz.results102,go_sem]) rfl ?_
 exact ⟨by unfold aO ch;rw [HN];rfl,(af w _).alloc (by simp) _⟩
def strN (n s:Int):Int:=if bL n s=true then s else 0
theorem qJ {n s:Int} (h:bL n s=true):strN n s=s:=by unfold strN;rw [if_pos h]
theorem vU {n s:Int} (h:bL n s=false):strN n s=0:=by unfold strN;rw [if_neg (by simp [h])]
theorem jE (w:World) (n s:Int):Calls Tryz.prog 52 #[.agg #[.int .i64 n,.int .i64 s]] w fun e w'=>e=.returned (.int .i64 (strN n s))/\Below w.heap.size w w':=by
 have hA:=af w (.cells #[.int .i64 n,.int .i64 s] 25);have X:=bK.new w 25 n s;obtain ⟨k0,k1⟩:=X.cells;have zA:=X.lt;go_enter Tryz.func52,Tryz.ntmps52
 go_wp2_with fail
 refine (dQ _ _ _).mono ?_
 rintro e w1 ⟨rfl,b1⟩;have X1:=X.below b1 zA;obtain ⟨q0,q1⟩:=X1.cells;have FB:=aa (Below.andThen hA b1);clear k0 k1 X b1 hA zA;cases hg:bL n s
 . have HS:=aa (vU hg)
   go_wp2
   go_ret
   exact ⟨aF (by rw [HS.out]),FB.out⟩
 have HS:=aa (qJ hg);go_wp2
 go_ret
 exact ⟨aF (by rw [HS.out]),FB.out⟩
end Go.Proofs.YtgjomldcnjjpaaaGreat

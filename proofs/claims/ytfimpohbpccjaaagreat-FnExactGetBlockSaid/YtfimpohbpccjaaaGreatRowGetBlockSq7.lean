/-
 Plain lemmas on one store into a row of a call's own, by its blocks, and on a row's elements with theirs. No condition; nothing of the program is named here.
-/
import Derived.Test.YtfimpohbpccjaaaGreatRowGetBlockSq5
import Derived.Test.YtfimpohbpccjaaaGreatRowGetBlockSq2

set_option maxRecDepth 100000
set_option maxHeartbeats 8000000
set_option linter.unusedSimpArgs false

namespace Go.Proofs.YtfimpohbpccjaaaGreat
open Go.RowKit

theorem fI (w:World) (a b:Option Addr) (la lb ca cb:Nat) (d d':List (List Int)) (h:bj.Rd w [.slice a la ca] d) (h':bj.Rd w [.slice b lb cb] d') (hw:aB d<=2097152):
 Calls Tryz.prog 60 #[.slice a la ca,.slice b lb cb] w fun e w'=>e=.returned (.bool (decide (d=d')))/\aG w w':=by
 obtain ⟨hl,hc,hm⟩:=ag h;obtain ⟨hl',hc',hm'⟩:=ag h';have hla:la<=2097152:=by unfold aB at hw;omega
 by_cases hlen:la=lb
 . subst hlen
   go_enter Tryz.func60,Tryz.ntmps60
   go_wp2
   go_loopw [5] (fun i wr=>∃j:Nat,j<=la/\i=.int .i64 j/\d.take j=d'.take j/\aG w wr) (fun i _=>la-(intOf i).toNat)
   case atStart=>exact ⟨0,Nat.zero_le _,rfl,rfl,aG.refl _⟩
   obtain ⟨j,hj,rfl,ht,hs⟩:=hrel;by_cases hjn:j<la
   . rcases cT rfl h with h0'|⟨bx,ox,rfl,hbx,hcx⟩
     . omega
     rcases cT rfl h' with h0'|⟨bY,oy,rfl,hby,hcy⟩
     . omega
     have hdj:d[j]?=some (d[j]'(by omega)):=List.getElem?_eq_getElem (by omega);have hdj':d'[j]?=some (d'[j]'(by omega)):=List.getElem?_eq_getElem (by omega);generalize d[j]'(by omega)=x at hdj;generalize d'[j]'(by omega)=y at hdj';have hal:=di hdj hdj';have hil:=dr hdj;obtain ⟨v,hv,hrv⟩:=hcx j x hdj;obtain ⟨av,cv,rfl⟩:=aq hrv;obtain ⟨u,hu,hru⟩:=hcy j y hdj';obtain ⟨au,cu,rfl⟩:=aq hru;have hw0:=(hs.cell ⟨bx,ox+j,none⟩).trans hv;have hw1:=(hs.cell ⟨bY,oy+j,none⟩).trans hu;obtain ⟨r1,_,_,_⟩:=az (hrv.same hs);obtain ⟨r2,_,_,_⟩:=az (hru.same hs);have i1:(0:Int)<=(j:Int):=by omega
     have i2:(j:Int)<(la:Int):=by omega
     have HT:=ab ht;clear hcx hcy hdj hdj' hv hu hrv hru ht;by_cases hxy:x=y
     . subst hxy
       have HD:=ab (hal.1 rfl HT.out);have hde:decide (x=x)=true:=by simp
       clear hal;go_wp2_with fail
       go_region_held3 (fun w'=>w'.cell? ⟨bx,ox+j,none⟩=some (.slice av x.length cv)/\w'.cell? ⟨bY,oy+j,none⟩=some (.slice au x.length cu))
        (first|(exact ⟨((hsC.cell ⟨bx,ox+j,none⟩).trans hw0),((hsC.cell ⟨bY,oy+j,none⟩).trans hw1)⟩)|(exact ⟨hw0,hw1⟩)|go_keep)
        (first|(go_at_call 62;refine (cG _ _ _ _ _ _ _ x x rfl rfl (by exact r1) (by exact r2) (by omega)).mono ?_;rintro e wC ⟨rfl,hsC0⟩;have hsC:aG wr wC:=((aG.refl wr).drew).trans hsC0))
       go_wp2
       go_roundw
       case rel=>exact ⟨j+1,by omega,by go_num,HD.out,hs.trans hsC⟩
       case measure=>simp [intOf];omega
     have HN:=ab (hal.2 hxy);have hde:decide (x=y)=false:=by simpa using hxy
     clear hal;go_wp2_with fail
     go_region_held3 (fun w'=>w'.cell? ⟨bx,ox+j,none⟩=some (.slice av x.length cv)/\w'.cell? ⟨bY,oy+j,none⟩=some (.slice au y.length cu))
      (first|(exact ⟨((hsC.cell ⟨bx,ox+j,none⟩).trans hw0),((hsC.cell ⟨bY,oy+j,none⟩).trans hw1)⟩)|(exact ⟨hw0,hw1⟩)|go_keep)
      (first|(go_at_call 62;refine (cG _ _ _ _ _ _ _ x y rfl rfl (by exact r1) (by exact r2) (by omega)).mono ?_;rintro e wC ⟨rfl,hsC0⟩;have hsC:aG wr wC:=((aG.refl wr).drew).trans hsC0))
     go_wp2
     go_ret
     exact ⟨ac (by have:=HN.out;simpa using this),hs.trans hsC⟩
   go_wp2
   go_ret
   have e:j=la:=by omega
   subst e;rw [List.take_of_length_le (by omega),List.take_of_length_le (by omega)] at ht;exact ⟨ac (by simp [ht]),hs⟩
 have hne:((la:Int)==(lb:Int))=false:=by simp;omega
 go_enter Tryz.func60,Tryz.ntmps60
 go_wp2
 go_ret
 exact ⟨ac (by simp;intro e;apply hlen;rw [←hl,←hl',e]),aG.refl _⟩
def fa {α:Type} [DecidableEq α] (x y:α):Bool:=decide (x=y)
theorem dj {α:Type} [DecidableEq α] (x:α):fa x x=true:=by simp [fa]
theorem cD {α:Type} [DecidableEq α] {x y:α} (h:x≠y):fa x y=false:=by simp [fa,h]
theorem fJ (w:World) (x y:Int) (a b:Option Addr) (la lb ca cb:Nat) (zs us:List Int) (h:aI.Rd w [.slice a la ca] zs) (h':aI.Rd w [.slice b lb cb] us) (hla:la<=2097152):
 Calls Tryz.prog 84 #[.agg #[.int .i64 x,.slice a la ca],.agg #[.int .i64 y,.slice b lb cb]] w fun e w'=>e=.returned (.bool (fa (x,zs) (y,us)))/\Below w.heap.size w w':=by
 have hA:Below w.heap.size w ((w.alloc (.cells #[.int .i64 x,.slice a la ca] 98)).alloc (.cells #[.int .i64 y,.slice b lb cb] 98)):=((Below.refl _ _).alloc (Nat.le_refl _) _).alloc (by simp) _;obtain ⟨r1,hl,_,_⟩:=az (h.below hA);obtain ⟨r2,hl',_,_⟩:=az (h'.below hA);by_cases hxy:x=y
 . subst hxy
   go_enter Tryz.func84,Tryz.ntmps84
   go_wp2_with fail
   refine (cG _ _ _ _ _ _ _ zs us hl hl' r1 r2 hla).mono ?_
   rintro e w1 ⟨rfl,hs1⟩;have hB:=Below.andSame hA hs1;by_cases hz:zs=us
   . have hde:decide (zs=us)=true:=by simpa using hz
     have HZ:=ab hz;clear hz;go_wp2
     go_ret
     exact ⟨ac (by rw [HZ.out,dj]),hB⟩
   have hde:decide (zs=us)=false:=by simpa using hz
   go_wp2
   go_ret
   exact ⟨ac (cD (by simpa using hz)).symm,hB⟩
 have hne:(x==y)=false:=by simpa using hxy
 go_enter Tryz.func84,Tryz.ntmps84
 go_wp2
 go_ret
 exact ⟨ac (cD (by simp [hxy])).symm,hA⟩
theorem hU (w:World) (E E':TypeId) (a b:Option Addr) (la lb ca cb:Nat) (d d':List (Int×List Int)) (h:(aV E).Rd w [.slice a la ca] d) (h':(aV E').Rd w [.slice b lb cb] d') (hw:aA d<=2097152):
 Calls Tryz.prog 61 #[.slice a la ca,.slice b lb cb] w fun e w'=>e=.returned (.bool (decide (d=d')))/\Below w.heap.size w w':=by
 obtain ⟨hl,hc,hm⟩:=ag h;obtain ⟨hl',hc',hm'⟩:=ag h';have hla:la<=2097152:=by unfold aA at hw;omega
 by_cases hlen:la=lb
 . subst hlen
   go_enter Tryz.func61,Tryz.ntmps61
   go_wp2
   go_loopw [5] (fun i wr=>∃j:Nat,j<=la/\i=.int .i64 j/\d.take j=d'.take j/\Below w.heap.size w wr) (fun i _=>la-(intOf i).toNat)
   case atStart=>exact ⟨0,Nat.zero_le _,rfl,rfl,Below.refl _ _⟩
   obtain ⟨j,hj,rfl,ht,hb⟩:=hrel;by_cases hjn:j<la
   . rcases aX rfl h with h0'|⟨bx,ox,rfl,hbx,hcx⟩
     . omega
     rcases aX rfl h' with h0'|⟨bY,oy,rfl,hby,hcy⟩
     . omega
     have hdj:d[j]?=some (d[j]'(by omega)):=List.getElem?_eq_getElem (by omega);have hdj':d'[j]?=some (d'[j]'(by omega)):=List.getElem?_eq_getElem (by omega);generalize d[j]'(by omega)=x at hdj;generalize d'[j]'(by omega)=y at hdj';have hal:=di hdj hdj';have hil:=bE hdj;obtain ⟨v0,v1,hv0,hv1,hrv⟩:=hcx j x hdj;obtain ⟨rfl,hrv'⟩:=bN hrv;obtain ⟨av,cv,rfl⟩:=aq hrv';obtain ⟨u0,u1,hu0,hu1,hru⟩:=hcy j y hdj';obtain ⟨rfl,hru'⟩:=bN hru;obtain ⟨au,cu,rfl⟩:=aq hru';have hw0:=(hb.cell (p:=⟨bx,ox+j*2,none⟩) hbx).trans hv0;have hw1:=(hb.cell (p:=⟨bx,ox+j*2+1,none⟩) hbx).trans hv1;have hw2:=(hb.cell (p:=⟨bY,oy+j*2,none⟩) hby).trans hu0;have hw3:=(hb.cell (p:=⟨bY,oy+j*2+1,none⟩) hby).trans hu1;have r1:=hrv'.below hb;have r2:=hru'.below hb;have zx:bx<wr.heap.size:=Nat.lt_of_lt_of_le hbx hb.size;have zy:bY<wr.heap.size:=Nat.lt_of_lt_of_le hby hb.size;have i1:(0:Int)<=(j:Int):=by omega
     have i2:(j:Int)<(la:Int):=by omega
     have HT:=ab ht;obtain ⟨x0,x1⟩:=x;obtain ⟨y0,y1⟩:=y;simp only at hw0 hw1 hw2 hw3 r1 r2 hil
     clear hcx hcy hdj hdj' hv0 hv1 hu0 hu1 hrv hru hrv' hru' ht;by_cases hxy:(x0,x1)=(y0,y1)
     . obtain ⟨rfl,rfl⟩:x0=y0/\x1=y1:=by simpa using hxy
       have HD:=ab (hal.1 rfl HT.out);have hde:=dj (x0,x1);clear hal hxy;go_wp2_with fail
       go_region_held3 (fun w'=>w'.cell? ⟨bx,ox+j*2,none⟩=some (.int .i64 x0)/\w'.cell? ⟨bx,ox+j*2+1,none⟩=some (.slice av x1.length cv)/\w'.cell? ⟨bY,oy+j*2,none⟩=some (.int .i64 x0)/\w'.cell? ⟨bY,oy+j*2+1,none⟩=some (.slice au x1.length cu))
        (first|(exact ⟨(hbC.cell (p:=⟨bx,ox+j*2,none⟩) zx).trans hw0,(hbC.cell (p:=⟨bx,ox+j*2+1,none⟩) zx).trans hw1,(hbC.cell (p:=⟨bY,oy+j*2,none⟩) zy).trans hw2,(hbC.cell (p:=⟨bY,oy+j*2+1,none⟩) zy).trans hw3⟩)|(exact ⟨hw0,hw1,hw2,hw3⟩)|go_keep)
        (first|(go_at_call 84;refine (fJ _ _ _ _ _ _ _ _ _ x1 x1 (by exact r1.drew) (by exact r2.drew) (by omega)).mono ?_;rintro e wC ⟨rfl,hbC0⟩;have hbC:Below wr.heap.size wr wC:=(Below.refl wr.heap.size wr).drew.trans hbC0))
       go_wp2
       go_roundw
       case rel=>exact ⟨j+1,by omega,by go_num,HD.out,Below.andThen hb hbC⟩
       case measure=>simp [intOf];omega
     have HN:=ab (hal.2 hxy);have hde:=cD hxy;clear hal hxy;go_wp2_with fail
     go_region_held3 (fun w'=>w'.cell? ⟨bx,ox+j*2,none⟩=some (.int .i64 x0)/\w'.cell? ⟨bx,ox+j*2+1,none⟩=some (.slice av x1.length cv)/\w'.cell? ⟨bY,oy+j*2,none⟩=some (.int .i64 y0)/\w'.cell? ⟨bY,oy+j*2+1,none⟩=some (.slice au y1.length cu))
      (first|(exact ⟨(hbC.cell (p:=⟨bx,ox+j*2,none⟩) zx).trans hw0,(hbC.cell (p:=⟨bx,ox+j*2+1,none⟩) zx).trans hw1,(hbC.cell (p:=⟨bY,oy+j*2,none⟩) zy).trans hw2,(hbC.cell (p:=⟨bY,oy+j*2+1,none⟩) zy).trans hw3⟩)|(exact ⟨hw0,hw1,hw2,hw3⟩)|go_keep)
      (first|(go_at_call 84;refine (fJ _ _ _ _ _ _ _ _ _ x1 y1 (by exact r1.drew) (by exact r2.drew) (by omega)).mono ?_;rintro e wC ⟨rfl,hbC0⟩;have hbC:Below wr.heap.size wr wC:=(Below.refl wr.heap.size wr).drew.trans hbC0))
     go_wp2
     go_ret
     exact ⟨ac (by have:=HN.out;simpa using this),Below.andThen hb hbC⟩
   go_wp2
   go_ret
   have e:j=la:=by omega
   subst e;rw [List.take_of_length_le (by omega),List.take_of_length_le (by omega)] at ht;exact ⟨ac (by simp [ht]),hb⟩
 have hne:((la:Int)==(lb:Int))=false:=by simp;omega
 go_enter Tryz.func61,Tryz.ntmps61
 go_wp2
 go_ret
 exact ⟨ac (by simp;intro e;apply hlen;rw [←hl,←hl',e]),Below.refl _ _⟩
theorem gk (w:World) (E E':TypeId) (a0 a1 a3 b0 b1 b3:Option Addr) (n0 c0 n1 c1 n3 c3 e0 e1 e3:Nat) (ss:List (List Int)) (cs:List (Int×List Int)) (f:Bool) (bs:List Int)
 (h0:bj.Rd w [.slice a0 n0 c0] ss) (h1:(aV E).Rd w [.slice a1 n1 c1] cs) (h3:aI.Rd w [.slice a3 n3 c3] bs) (k0:bj.Rd w [.slice b0 n0 e0] ss) (k1:(aV E').Rd w [.slice b1 n1 e1] cs) (k3:aI.Rd w [.slice b3 n3 e3] bs) (hw:aF (ss,cs,f,bs)<=2097152):
 Calls Tryz.prog 40 #[.agg #[.slice a0 n0 c0,.slice a1 n1 c1,.bool f,.slice a3 n3 c3],.agg #[.slice b0 n0 e0,.slice b1 n1 e1,.bool f,.slice b3 n3 e3]] w fun e w'=>e=.returned (.bool true)/\Below w.heap.size w w':=by
 obtain ⟨hn3,_,_⟩:=ag h3;have hw0:aB ss<=2097152:=by unfold aF at hw;simp only at hw;omega
 have hw1:aA cs<=2097152:=by unfold aF at hw;simp only at hw;omega
 have hw3:n3<=2097152:=by unfold aF at hw;simp only at hw;omega
 have hA:Below w.heap.size w ((w.alloc (.cells #[.slice a0 n0 c0,.slice a1 n1 c1,.bool f,.slice a3 n3 c3] 66)).alloc (.cells #[.slice b0 n0 e0,.slice b1 n1 e1,.bool f,.slice b3 n3 e3] 66)):=
  ((Below.refl _ _).alloc (Nat.le_refl _) _).alloc (by simp) _
 go_enter Tryz.func40,Tryz.ntmps40
 go_wp2_with fail
 refine (fI _ _ _ _ _ _ _ ss ss (h0.below hA) (k0.below hA) hw0).mono ?_
 rintro e w1 ⟨rfl,hs1⟩;have hd1:decide (ss=ss)=true:=by simp
 have hc1:=hs1.cell;have z1:=hs1.size;have B1:=Below.andSame hA hs1;have z1a:w.heap.size<w1.heap.size:=by rw [z1];simp;omega
 have z1b:w.heap.size+1<w1.heap.size:=by rw [z1];simp
 clear hA hs1 z1;go_wp2_with fail
 refine (hU _ E E' _ _ _ _ _ _ cs cs (h1.below B1) (k1.below B1) hw1).mono ?_
 rintro e w2 ⟨rfl,hb2⟩;have hd2:decide (cs=cs)=true:=by simp
 obtain ⟨hc2,_⟩:=eX hb2;have B2:=Below.andThen B1 hb2;have hff:(f !=f)=false:=by simp
 clear hb2;go_wp2_with fail
 refine (cG _ _ _ _ _ _ _ bs bs hn3 hn3 (az (h3.below B2)).1 (az (k3.below B2)).1 hw3).mono ?_
 rintro e w3 ⟨rfl,hs3⟩;have hd3:decide (bs=bs)=true:=by simp
 have B3:=Below.andSame B2 hs3;clear hs3;go_wp2
 go_ret
 exact ⟨rfl,B3⟩
theorem iE (w:World) (E E':TypeId) (v0 v1 v3 u0 u1 u3:Value) (f:Bool) (ss:List (List Int)) (cs:List (Int×List Int)) (bs:List Int) (h:(ft E).Rd w [v0,v1,.bool f,v3] (ss,cs,f,bs)) (k:(ft E').Rd w [u0,u1,.bool f,u3] (ss,cs,f,bs)) (hw:aF (ss,cs,f,bs)<=2097152):
 Calls Tryz.prog 40 #[.agg #[v0,v1,.bool f,v3],.agg #[u0,u1,.bool f,u3]] w fun e w'=>e=.returned (.bool true)/\Below w.heap.size w w':=by
 obtain ⟨a0,c0,a1,c1,a3,c3,rfl,rfl,_,rfl,h0,h1,h3⟩:=gj h;obtain ⟨b0,e0,b1,e1,b3,e3,rfl,rfl,_,rfl,k0,k1,k3⟩:=gj k;exact gk w E E' _ _ _ _ _ _ _ _ _ _ _ _ _ _ _ ss cs f bs h0 h1 h3 k0 k1 k3 hw
theorem fb (w:World) (x:Int) (a:Option Addr) (n cap:Nat) (left:Int) (hn:n<=9223372036854775807) (h0:0<=left) (h1:left<=1048576):
 Calls Tryz.prog 26 #[.agg #[.int .i64 x,.slice a n cap],.int .i64 left] w fun e w'=>e=.returned (.int .i64 (bH left n))/\Below w.heap.size w w':=by
 by_cases h:(n:Int)<=left
 . have hq:=aD h
   go_enter Tryz.func26,Tryz.ntmps26
   go_wp2_with fail
   refine (bQ _ _ _ _ _ hn h0 h1).mono ?_
   rintro e w1 ⟨rfl,rfl⟩;go_wp2
   go_ret
   exact ⟨ai (by omega),(Below.refl _ _).alloc (Nat.le_refl _) _⟩
 have hq:=ar (left:=left) (wt:=n) (by omega);go_enter Tryz.func26,Tryz.ntmps26
 go_wp2_with fail
 refine (bQ _ _ _ _ _ hn h0 h1).mono ?_
 rintro e w1 ⟨rfl,rfl⟩;go_wp2
 go_ret
 exact ⟨ai (by omega),(Below.refl _ _).alloc (Nat.le_refl _) _⟩
theorem gn (w:World) (E:TypeId) (a:Option Addr) (n cap:Nat) (d:List (Int×List Int)) (left:Int) (h:(aV E).Rd w [.slice a n cap] d) (h0:0<=left) (h1:left<=1048576):
 Calls Tryz.prog 10 #[.slice a n cap,.int .i64 left] w fun e w'=>e=.returned (.int .i64 (bH left (aA d)))/\Below w.heap.size w w':=by
 obtain ⟨hl,hc,hm⟩:=ag h;by_cases hlt:(n:Int)<=left
 . go_enter Tryz.func10,Tryz.ntmps10
   go_wp2
   go_loopw [1,5] (fun l i wr=>∃j:Nat,j<=n/\i=.int .i64 j/\l=.int .i64 (left-n-(bl ((d.map fun x=>x.2.length).take j):Int))/\(bl ((d.map fun x=>x.2.length).take j):Int)<=left-n/\Below w.heap.size w wr) (fun _ i _=>n-(intOf i).toNat)
   case atStart=>exact ⟨0,Nat.zero_le _,rfl,by simp [bl],by simp [bl];omega,Below.refl _ _⟩
   obtain ⟨j,hj,rfl,rfl,hs,hb⟩:=hrel;by_cases hjn:j<n
   . rcases aX rfl h with h0'|⟨b,off,rfl,hbl,hcs⟩
     . omega
     have hdj:d[j]?=some (d[j]'(by omega)):=List.getElem?_eq_getElem (by omega);generalize d[j]'(by omega)=x at hdj;obtain ⟨v0,v1,hv0,hv1,hrv⟩:=hcs j x hdj;obtain ⟨rfl,hrw⟩:=bN hrv;obtain ⟨av,cv,rfl⟩:=aq hrw;obtain ⟨_,hxc,hxm⟩:=ag hrw;have hw0:=(hb.cell (p:=⟨b,off+j*2,none⟩) hbl).trans hv0;have hw1:=(hb.cell (p:=⟨b,off+j*2+1,none⟩) hbl).trans hv1;have hst:=bD (l:=d.map fun x=>x.2.length) (j:=j) (x:=x.2.length) (by rw [List.getElem?_map,hdj];rfl);obtain ⟨x0,x1⟩:=x;simp only at hw0 hw1 hxc hxm hst
     have HW:Hid (bl ((d.map fun x=>x.2.length).take (j+1))=bl ((d.map fun x=>x.2.length).take j)+x1.length):=hst;have hle:=ci (l:=d.map fun x=>x.2.length) (j+1);have HE:Hid (aA d=n+bl (d.map fun x=>x.2.length)):=by unfold Hid aA;rw [hl]
     generalize hS:bl ((d.map fun x=>x.2.length).take j)=S at hs HW;generalize hT:bl (d.map fun x=>x.2.length)=T at hle HE;clear hcs hst hS hT hdj hv0 hv1 hrv hrw;by_cases hx:(x1.length:Int)<=left-n-S
     . have hq:=aD hx
       go_wp2_with fail
       refine (fb _ _ _ _ _ _ (by omega) (by omega) (by omega)).mono ?_
       rintro e w1 ⟨rfl,hb1⟩;have hB:=Below.andThen hb hb1;go_wp2
       go_roundw
       case rel=>exact ⟨j+1,by omega,by go_num,by rw [HW.out];go_num,by rw [HW.out];omega,hB⟩
       case measure=>simp [intOf];omega
     have hq:=ar (left:=left-n-(S:Int)) (wt:=x1.length) (by omega);have hgt:left<((aA d:Nat):Int):=by rw [HE.out];have:=HW.out;omega
     go_wp2_with fail
     refine (fb _ _ _ _ _ _ (by omega) (by omega) (by omega)).mono ?_
     rintro e w1 ⟨rfl,hb1⟩;have hB:=Below.andThen hb hb1;go_wp2
     go_ret
     exact ⟨ai (ar (by omega)).symm,hB⟩
   go_wp2
   go_ret
   have e:j=n:=by omega
   subst e;have ht:(d.map fun x=>x.2.length).take j=d.map fun x=>x.2.length:=List.take_of_length_le (by simp;omega);rw [ht] at hs;refine ⟨ai ?_,hb⟩
   rw [ht,aD (by unfold aA;omega)];unfold aA;omega
 have hgt:left<((aA d:Nat):Int):=by unfold aA;omega
 go_enter Tryz.func10,Tryz.ntmps10
 go_wp2
 go_ret
 exact ⟨ai (ar (by omega)).symm,Below.refl _ _⟩
theorem Tryz.infoEnt:(Tryz.prog.info? 63).map (fun i=>(i.zero,i.size,i.bytes))=some (some (.agg #[.int .i64 0,.slice none 0 0]),2,32):=by kernel_rfl
theorem hY (w:World) (x:Int) (a:Option Addr) (n cap:Nat) (zs:List Int) (h:aI.Rd w [.slice a n cap] zs) (hn:n<=1048576):
 Calls Tryz.prog 33 #[.agg #[.int .i64 x,.slice a n cap]] w fun e w'=>∃g,e=.returned (.agg #[.int .i64 x,.slice (some ⟨g,0,none⟩) n n])/\tWr.Own w' w.heap.size w'.heap.size [.int .i64 x,.slice (some ⟨g,0,none⟩) n n] (x,zs)/\Below w.heap.size w w':=by
 obtain ⟨hr,hl,_,_⟩:=az h;go_enter Tryz.func33,Tryz.ntmps33
 have hA:Below w.heap.size w (((w.alloc (.cells #[.int .i64 x,.slice a n cap] 59)).alloc (.cells #[.int .i64 0,.slice none 0 0] 63)).alloc (.cells #[.int .i64 x,.slice none 0 0] 63)):=
  (((Below.refl _ _).alloc (Nat.le_refl _) _).alloc (by simp) _).alloc (by simp;omega) _
 have hr3:=hr.below hA;go_wp2_with fail
 refine (dh _ _ _ _ zs hl hr3 (by omega)).mono ?_
 rintro e w4 ⟨rfl,ho4,hb4⟩;obtain ⟨hc,hf⟩:=eX hb4;have hz:w.heap.size+1+1<w4.heap.size:=by have:=hb4.size;simp at this;omega
 have HO:=aC ho4;have HB:=hA.trans (hb4.mono (by simp;omega));have e3:(((w.alloc (.cells #[.int .i64 x,.slice a n cap] 59)).alloc (.cells #[.int .i64 0,.slice none 0 0] 63)).alloc (.cells #[.int .i64 x,.slice none 0 0] 63)).heap.size=w.heap.size+1+1+1:=by simp
 rw [e3] at HO;have HO':=ab HO;clear HO ho4 hb4 hA hr3 e3;go_wp2
 have hbt:But w.heap.size (w.heap.size+1+1+1) w4 (((w4.setCell ⟨w.heap.size+1+1,1,none⟩ (.slice (some ⟨w.heap.size+1+1+1,0,none⟩) n n)).setCell ⟨w.heap.size+1,0,none⟩ (.int .i64 x)).setCell ⟨w.heap.size+1,1,none⟩ (.slice (some ⟨w.heap.size+1+1+1,0,none⟩) n n)):=
  ((But.setCell (by omega) (by omega) _).trans (But.setCell (by omega) (by omega) _)).trans (But.setCell (by omega) (by omega) _)
 have hO:=HO'.out.but hbt (.inr (Nat.le_refl _));have hB:=Below.andBut HB hbt (Nat.le_refl _);have hS:=hbt.size;refine bodyPost_ret (v:=.agg #[.int .i64 x,.slice (some ⟨w.heap.size+1+1+1,0,none⟩) n n]) (by simp [results,Tryz.results33,go_sem,hc]) rfl ⟨_,rfl,?_,hB⟩
 exact cn (t:=dq) (gS _ _ _ _) (hO.widen (lo':=w.heap.size) (by omega) hS) (Nat.le_refl _) (by simp;omega)
theorem gp (w:World) (E:TypeId) (a:Option Addr) (n cap:Nat) (d:List (Int×List Int)) (h:(aV E).Rd w [.slice a n cap] d) (hw:aA d<=1048576):
 Calls Tryz.prog 17 #[.slice a n cap] w fun e w'=>e=.returned (.slice (some ⟨w.heap.size,0,none⟩) n n)/\(aV 63).Own w' w.heap.size w'.heap.size [.slice (some ⟨w.heap.size,0,none⟩) n n] d/\Below w.heap.size w w':=by
 obtain ⟨hl,hc,hm⟩:=ag h;obtain ⟨i0,hi,hz0,hz1,hz2⟩:=info_parts Tryz.infoEnt;have hn:n<=1048576:=by unfold aA at hw;omega
 have hb3:i0.bytes*n<=281474976710656:=by rw [hz2];omega
 have hm3:n<=maxLen:=by unfold maxLen;omega
 go_enter Tryz.func17,Tryz.ntmps17
 go_wp2_with (at_make;refine wpList_make_full _ rfl _ _ 33 rfl w.heap.size 63 i0 (.agg #[.int .i64 0,.slice none 0 0]) 2 Tryz.underlying33 hi hz0 hz1 _ _ _ _ n rfl rfl rfl rfl hb3 hm3 (Nat.le_refl _) ?_;intro w1 hown hgrow)
 have hO:=dM (t:=tWr) (z:=(0,[])) hown (by omega) rfl (fun _=>⟨[],[],rfl,⟨rfl,rfl⟩,.inl ⟨rfl,rfl,rfl⟩,rfl⟩);have hB1:Below w.heap.size w w1:=(Below.refl _ _).grown hgrow (Nat.le_refl _) (by simp);clear hown hgrow;go_loopw [4] (fun i wr=>∃j:Nat,j<=n/\i=.int .i64 j/\(aV 63).Own wr w.heap.size wr.heap.size [.slice (some ⟨w.heap.size,0,none⟩) n n] (d.take j++List.replicate (n-j) (0,[]))/\Below w.heap.size w wr) (fun i _=>n-(intOf i).toNat)
 case atStart=>exact ⟨0,Nat.zero_le _,rfl,by simpa using hO,hB1⟩
 clear hO hB1;obtain ⟨j,hj,rfl,ho,hb⟩:=hrel;by_cases hjn:j<n
 . rcases aX rfl h with h0'|⟨b,off,rfl,hbl,hcs⟩
   . omega
   have hdj:d[j]?=some (d[j]'(by omega)):=List.getElem?_eq_getElem (by omega);have hlen:(d[j]'(by omega)).2.length<=1048576:=by
    have h1:=bD (l:=d.map fun x=>x.2.length) (j:=j) (x:=(d[j]'(by omega)).2.length) (by rw [List.getElem?_map,hdj];rfl);have h2:=ci (l:=d.map fun x=>x.2.length) (j+1);unfold aA at hw;omega
   have HS:=cB d (0,[]) _ j hdj;generalize d[j]'(by omega)=x at hdj hlen HS;rw [hl] at HS;have HS':Hid _:=HS;obtain ⟨v0,v1,hv0,hv1,hrv⟩:=hcs j x hdj;obtain ⟨rfl,hrw⟩:=bN hrv;obtain ⟨av,cv,rfl⟩:=aq hrw;have hw0:=(hb.cell (p:=⟨b,off+j*2,none⟩) hbl).trans hv0;have hw1:=(hb.cell (p:=⟨b,off+j*2+1,none⟩) hbl).trans hv1;have hrr:=hrw.below hb;obtain ⟨x0,x1⟩:=x;simp only at hw0 hw1 hlen hrr
   clear hcs hdj HS hv0 hv1 hrv hrw;go_wp2_with fail
   refine (hY _ _ _ _ _ x1 hrr (by omega)).mono ?_
   rintro e w2 ⟨g2,rfl,ho2,hb2⟩;have s2:=hb2.size;obtain ⟨⟨old0,hcy0⟩,⟨old1,hcy1⟩,hfy0,hfy1,hst,hbt⟩:=ex rfl (ho.below hb2) hjn ho2 (Nat.le_refl _) s2;rw [HS'.out] at hst;have HST:=ab hst;have HB:=Below.andThen hb hb2;clear ho ho2 hb2 hst hbt hb;go_wp2
   go_roundw
   case rel=>exact ⟨j+1,by omega,by go_num,by first|exact HST.out|(simp only [World.size_setCell];exact HST.out),(HB.setCell (p:=⟨w.heap.size,j*2,none⟩) (Nat.le_refl _) _).setCell (p:=⟨w.heap.size,j*2+1,none⟩) (Nat.le_refl _) _⟩
   case measure=>simp [intOf];omega
 go_wp2
 go_ret
 have e:j=n:=by omega
 subst e;rw [Nat.sub_self,List.replicate_zero,List.append_nil,List.take_of_length_le (by omega)] at ho;exact ⟨rfl,ho,hb⟩
theorem fc (w:World) (x y:Int) (a b:Option Addr) (la lb ca cb:Nat) (zs us:List Int) (h:aI.Rd w [.slice a la ca] zs) (h':aI.Rd w [.slice b lb cb] us) (hla:la<=2097152):
 Calls Tryz.prog 41 #[.agg #[.int .i64 x,.slice a la ca],.agg #[.int .i64 y,.slice b lb cb]] w fun e w'=>e=.returned (.bool (fa (x,zs) (y,us)))/\Below w.heap.size w w':=by
 have hA:Below w.heap.size w ((w.alloc (.cells #[.int .i64 x,.slice a la ca] 63)).alloc (.cells #[.int .i64 y,.slice b lb cb] 63)):=((Below.refl _ _).alloc (Nat.le_refl _) _).alloc (by simp) _;obtain ⟨r1,hl,_,_⟩:=az (h.below hA);obtain ⟨r2,hl',_,_⟩:=az (h'.below hA);by_cases hxy:x=y
 . subst hxy
   go_enter Tryz.func41,Tryz.ntmps41
   go_wp2_with fail
   refine (cG _ _ _ _ _ _ _ zs us hl hl' r1 r2 hla).mono ?_
   rintro e w1 ⟨rfl,hs1⟩;have hB:=Below.andSame hA hs1;by_cases hz:zs=us
   . have hde:decide (zs=us)=true:=by simpa using hz
     have HZ:=ab hz;clear hz;go_wp2
     go_ret
     exact ⟨ac (by rw [HZ.out,dj]),hB⟩
   have hde:decide (zs=us)=false:=by simpa using hz
   go_wp2
   go_ret
   exact ⟨ac (cD (by simpa using hz)).symm,hB⟩
 have hne:(x==y)=false:=by simpa using hxy
 go_enter Tryz.func41,Tryz.ntmps41
 go_wp2
 go_ret
 exact ⟨ac (cD (by simp [hxy])).symm,hA⟩
theorem gq (w:World) (E E':TypeId) (a b:Option Addr) (la lb ca cb:Nat) (d d':List (Int×List Int)) (h:(aV E).Rd w [.slice a la ca] d) (h':(aV E').Rd w [.slice b lb cb] d') (hw:aA d<=2097152):
 Calls Tryz.prog 24 #[.slice a la ca,.slice b lb cb] w fun e w'=>e=.returned (.bool (decide (d=d')))/\Below w.heap.size w w':=by
 obtain ⟨hl,hc,hm⟩:=ag h;obtain ⟨hl',hc',hm'⟩:=ag h';have hla:la<=2097152:=by unfold aA at hw;omega
 by_cases hlen:la=lb
 . subst hlen
   go_enter Tryz.func24,Tryz.ntmps24
   go_wp2
   go_loopw [5] (fun i wr=>∃j:Nat,j<=la/\i=.int .i64 j/\d.take j=d'.take j/\Below w.heap.size w wr) (fun i _=>la-(intOf i).toNat)
   case atStart=>exact ⟨0,Nat.zero_le _,rfl,rfl,Below.refl _ _⟩
   obtain ⟨j,hj,rfl,ht,hb⟩:=hrel;by_cases hjn:j<la
   . rcases aX rfl h with h0'|⟨bx,ox,rfl,hbx,hcx⟩
     . omega
     rcases aX rfl h' with h0'|⟨bY,oy,rfl,hby,hcy⟩
     . omega
     have hdj:d[j]?=some (d[j]'(by omega)):=List.getElem?_eq_getElem (by omega);have hdj':d'[j]?=some (d'[j]'(by omega)):=List.getElem?_eq_getElem (by omega);generalize d[j]'(by omega)=x at hdj;generalize d'[j]'(by omega)=y at hdj';have hal:=di hdj hdj';have hil:=bE hdj;obtain ⟨v0,v1,hv0,hv1,hrv⟩:=hcx j x hdj;obtain ⟨rfl,hrv'⟩:=bN hrv;obtain ⟨av,cv,rfl⟩:=aq hrv';obtain ⟨u0,u1,hu0,hu1,hru⟩:=hcy j y hdj';obtain ⟨rfl,hru'⟩:=bN hru;obtain ⟨au,cu,rfl⟩:=aq hru';have hw0:=(hb.cell (p:=⟨bx,ox+j*2,none⟩) hbx).trans hv0;have hw1:=(hb.cell (p:=⟨bx,ox+j*2+1,none⟩) hbx).trans hv1;have hw2:=(hb.cell (p:=⟨bY,oy+j*2,none⟩) hby).trans hu0;have hw3:=(hb.cell (p:=⟨bY,oy+j*2+1,none⟩) hby).trans hu1;have r1:=hrv'.below hb;have r2:=hru'.below hb;have zx:bx<wr.heap.size:=Nat.lt_of_lt_of_le hbx hb.size;have zy:bY<wr.heap.size:=Nat.lt_of_lt_of_le hby hb.size;have i1:(0:Int)<=(j:Int):=by omega
     have i2:(j:Int)<(la:Int):=by omega
     have HT:=ab ht;obtain ⟨x0,x1⟩:=x;obtain ⟨y0,y1⟩:=y;simp only at hw0 hw1 hw2 hw3 r1 r2 hil
     clear hcx hcy hdj hdj' hv0 hv1 hu0 hu1 hrv hru hrv' hru' ht;by_cases hxy:(x0,x1)=(y0,y1)
     . obtain ⟨rfl,rfl⟩:x0=y0/\x1=y1:=by simpa using hxy
       have HD:=ab (hal.1 rfl HT.out);have hde:=dj (x0,x1);clear hal hxy;go_wp2_with fail
       go_region_held3 (fun w'=>w'.cell? ⟨bx,ox+j*2,none⟩=some (.int .i64 x0)/\w'.cell? ⟨bx,ox+j*2+1,none⟩=some (.slice av x1.length cv)/\w'.cell? ⟨bY,oy+j*2,none⟩=some (.int .i64 x0)/\w'.cell? ⟨bY,oy+j*2+1,none⟩=some (.slice au x1.length cu))
        (first|(exact ⟨(hbC.cell (p:=⟨bx,ox+j*2,none⟩) zx).trans hw0,(hbC.cell (p:=⟨bx,ox+j*2+1,none⟩) zx).trans hw1,(hbC.cell (p:=⟨bY,oy+j*2,none⟩) zy).trans hw2,(hbC.cell (p:=⟨bY,oy+j*2+1,none⟩) zy).trans hw3⟩)|(exact ⟨hw0,hw1,hw2,hw3⟩)|go_keep)
        (first|(go_at_call 41;refine (fc _ _ _ _ _ _ _ _ _ x1 x1 (by exact r1.drew) (by exact r2.drew) (by omega)).mono ?_;rintro e wC ⟨rfl,hbC0⟩;have hbC:Below wr.heap.size wr wC:=(Below.refl wr.heap.size wr).drew.trans hbC0))
       go_wp2
       go_roundw
       case rel=>exact ⟨j+1,by omega,by go_num,HD.out,Below.andThen hb hbC⟩
       case measure=>simp [intOf];omega
     have HN:=ab (hal.2 hxy);have hde:=cD hxy;clear hal hxy;go_wp2_with fail
     go_region_held3 (fun w'=>w'.cell? ⟨bx,ox+j*2,none⟩=some (.int .i64 x0)/\w'.cell? ⟨bx,ox+j*2+1,none⟩=some (.slice av x1.length cv)/\w'.cell? ⟨bY,oy+j*2,none⟩=some (.int .i64 y0)/\w'.cell? ⟨bY,oy+j*2+1,none⟩=some (.slice au y1.length cu))
      (first|(exact ⟨(hbC.cell (p:=⟨bx,ox+j*2,none⟩) zx).trans hw0,(hbC.cell (p:=⟨bx,ox+j*2+1,none⟩) zx).trans hw1,(hbC.cell (p:=⟨bY,oy+j*2,none⟩) zy).trans hw2,(hbC.cell (p:=⟨bY,oy+j*2+1,none⟩) zy).trans hw3⟩)|(exact ⟨hw0,hw1,hw2,hw3⟩)|go_keep)
      (first|(go_at_call 41;refine (fc _ _ _ _ _ _ _ _ _ x1 y1 (by exact r1.drew) (by exact r2.drew) (by omega)).mono ?_;rintro e wC ⟨rfl,hbC0⟩;have hbC:Below wr.heap.size wr wC:=(Below.refl wr.heap.size wr).drew.trans hbC0))
     go_wp2
     go_ret
     exact ⟨ac (by have:=HN.out;simpa using this),Below.andThen hb hbC⟩
   go_wp2
   go_ret
   have e:j=la:=by omega
   subst e;rw [List.take_of_length_le (by omega),List.take_of_length_le (by omega)] at ht;exact ⟨ac (by simp [ht]),hb⟩
 have hne:((la:Int)==(lb:Int))=false:=by simp;omega
 go_enter Tryz.func24,Tryz.ntmps24
 go_wp2
 go_ret
 exact ⟨ac (by simp;intro e;apply hlen;rw [←hl,←hl',e]),Below.refl _ _⟩
structure Fr (N B:Nat) (w w':World):Prop where
 os:w'.os=w.os
 tape:w'.tape=w.tape
 output:w'.output=w.output
 size:w.heap.size<=w'.heap.size
 block:∀k,k<N->k≠B->w'.heap[k]?=w.heap[k]?
theorem Fr.refl (N B:Nat) (w:World):Fr N B w w:=⟨rfl,rfl,rfl,Nat.le_refl _,fun _ _ _=>rfl⟩
theorem Fr.trans {N B:Nat} {a b c:World} (h:Fr N B a b) (k:Fr N B b c):Fr N B a c:=
 ⟨k.os.trans h.os,k.tape.trans h.tape,k.output.trans h.output,Nat.le_trans h.size k.size,fun i hi ho=>(k.block i hi ho).trans (h.block i hi ho)⟩
theorem Fr.box {N B C:Nat} {w w':World} {T:TypeId} {cs:Array Value} (h:Fr N B w w') (x:Box w C T cs) (hC:C<N) (hne:C≠B):Box w' C T cs:=x.kept (h.block C hC hne)
theorem Fr.below {N B M:Nat} {w w':World} (h:Fr N B w w') (h1:M<=N) (h2:M<=B):Below M w w':=⟨h.os,h.tape,h.output,h.size,fun k hk=>h.block k (by omega) (by omega)⟩
theorem Fr.own {t:Ty} {N B lo hi:Nat} {w w':World} {vs:List Value} {d:t.D} (h:Fr N B w w') (o:t.Own w lo hi vs d) (h1:hi<=N) (h2:hi<=B∨B<lo):t.Own w' lo hi vs d:=by
 obtain ⟨fp,k1,k2,k3⟩:=o;exact ⟨fp,t.owKept k1 (fun b hb=>h.block b (by have:=k3 b hb;omega) (by have:=k3 b hb;omega)) h.size,k2,k3⟩
theorem Fr.ofBelow {N B:Nat} {w w':World} (h:Below w.heap.size w w') (hN:N<=w.heap.size):Fr N B w w':=⟨h.os,h.tape,h.output,h.size,fun k hk _=>h.block k (by omega)⟩
theorem Fr.ofTurned {N B:Nat} {w w':World} {fp:List Nat} (h:aJ fp w w') (hN:N<=w.heap.size) (hf:∀b∈fp,N<=b):Fr N B w w':=
 ⟨h.os,h.tape,h.output,h.size,fun k hk _=>h.block k (by omega) (fun hm=>by have:=hf k hm;omega)⟩
theorem Fr.ofSet {N B:Nat} (w:World) (j:Nat) (v:Value):Fr N B w (w.setCell ⟨B,j,none⟩ v):=⟨rfl,rfl,rfl,by simp [World.setCell],fun k _ hk=>Below.heap_setCell _ _ _ _ (by simpa using hk)⟩
theorem Ty.Mine.but {t:Ty} {w w':World} {lo hi:Nat} {vs:List Value} {d:t.D} {fp:List Nat} (h:t.Mine w vs d fp) (hb:But lo hi w w') (hd:∀b∈fp,b<lo∨hi<=b):t.Mine w' vs d fp:=⟨t.owKept h.1 (fun b hm=>hb.block b (h.lt b hm) (by have:=hd b hm;omega)) hb.size,h.2⟩
theorem Fr.round {N B:Nat} {w wr wc wA:World} {fp:List Nat} (h:Fr N B w wr) (hN:N<=wr.heap.size) (hc:Below wr.heap.size wr wc) (o:Obj) (ht:aJ fp (wc.alloc o) wA) (hf:∀b∈fp,N<=b) (j:Nat) (v:Value):Fr N B w (wA.setCell ⟨B,j,none⟩ v):=by
 have h1:=hc.size;have h2:(wc.alloc o).heap.size=wc.heap.size+1:=by simp
 exact ((h.trans (Fr.ofBelow (Below.andThen hc ((Below.refl _ _).alloc (Nat.le_refl _) o)) hN)).trans (Fr.ofTurned ht (by omega) hf)).trans (Fr.ofSet _ _ _)
end Go.Proofs.YtfimpohbpccjaaaGreat

/-
 A Super is eight numbers; both looks whether it is right (the program's and the specification's) answer as the definition here says. No condition.
-/
import Derived.Test.YtfimpohbpccjaaaRowWordsSq4
import Derived.Test.YtfimpohbpccjaaaRowWordsSq1

set_option maxRecDepth 100000
set_option maxHeartbeats 8000000
set_option linter.unusedSimpArgs false

namespace Go.Proofs.Ytfimpohbpccjaaa
open Go.RowKit

theorem eS (w:World) (a b:Option Addr) (la lb ca cb:Nat) (d d':List (List Int)) (h:aM.Rd w [.slice a la ca] d) (h':aM.Rd w [.slice b lb cb] d') (hw:aw d<=2097152):
 Calls Try.prog 81 #[.slice a la ca,.slice b lb cb] w fun e w'=>e=.returned (.bool (decide (d=d')))/\aG w w':=by
 obtain ⟨hl,hc,hm⟩:=af h;obtain ⟨hl',hc',hm'⟩:=af h';have hla:la<=2097152:=by unfold aw at hw;omega
 by_cases hlen:la=lb
 . subst hlen
   go_enter Try.func81,Try.ntmps81
   go_wp2
   go_loopw [5] (fun i wr=>∃j:Nat,j<=la/\i=.int .i64 j/\d.take j=d'.take j/\aG w wr) (fun i _=>la-(intOf i).toNat)
   case atStart=>exact ⟨0,Nat.zero_le _,rfl,rfl,aG.refl _⟩
   obtain ⟨j,hj,rfl,ht,hs⟩:=hrel;by_cases hjn:j<la
   . rcases cG rfl h with h0'|⟨bx,ox,rfl,hbx,hcx⟩
     . omega
     rcases cG rfl h' with h0'|⟨bY,oy,rfl,hby,hcy⟩
     . omega
     have hdj:d[j]?=some (d[j]'(by omega)):=List.getElem?_eq_getElem (by omega);have hdj':d'[j]?=some (d'[j]'(by omega)):=List.getElem?_eq_getElem (by omega);generalize d[j]'(by omega)=x at hdj;generalize d'[j]'(by omega)=y at hdj';have hal:=cT hdj hdj';have hil:=cZ hdj;obtain ⟨v,hv,hrv⟩:=hcx j x hdj;obtain ⟨av,cv,rfl⟩:=ak hrv;obtain ⟨u,hu,hru⟩:=hcy j y hdj';obtain ⟨au,cu,rfl⟩:=ak hru;have hw0:=(hs.cell ⟨bx,ox+j,none⟩).trans hv;have hw1:=(hs.cell ⟨bY,oy+j,none⟩).trans hu;obtain ⟨r1,_,_,_⟩:=ap (hrv.same hs);obtain ⟨r2,_,_,_⟩:=ap (hru.same hs);have i1:(0:Int)<=(j:Int):=by omega
     have i2:(j:Int)<(la:Int):=by omega
     have HT:=ab ht;clear hcx hcy hdj hdj' hv hu hrv hru ht;by_cases hxy:x=y
     . subst hxy
       have HD:=ab (hal.1 rfl HT.out);have hde:decide (x=x)=true:=by simp
       clear hal;go_wp2_with fail
       go_region_held3 (fun w'=>w'.cell? ⟨bx,ox+j,none⟩=some (.slice av x.length cv)/\w'.cell? ⟨bY,oy+j,none⟩=some (.slice au x.length cu))
        (first|(exact ⟨((hsC.cell ⟨bx,ox+j,none⟩).trans hw0),((hsC.cell ⟨bY,oy+j,none⟩).trans hw1)⟩)|(exact ⟨hw0,hw1⟩)|go_keep)
        (first|(go_at_call 15;refine (bu _ _ _ _ _ _ _ x x rfl rfl (by exact r1) (by exact r2) (by omega)).mono ?_;rintro e wC ⟨rfl,hsC0⟩;have hsC:aG wr wC:=((aG.refl wr).drew).trans hsC0))
       go_wp2
       go_roundw
       case rel=>exact ⟨j+1,by omega,by go_num,HD.out,hs.trans hsC⟩
       case measure=>simp [intOf];omega
     have HN:=ab (hal.2 hxy);have hde:decide (x=y)=false:=by simpa using hxy
     clear hal;go_wp2_with fail
     go_region_held3 (fun w'=>w'.cell? ⟨bx,ox+j,none⟩=some (.slice av x.length cv)/\w'.cell? ⟨bY,oy+j,none⟩=some (.slice au y.length cu))
      (first|(exact ⟨((hsC.cell ⟨bx,ox+j,none⟩).trans hw0),((hsC.cell ⟨bY,oy+j,none⟩).trans hw1)⟩)|(exact ⟨hw0,hw1⟩)|go_keep)
      (first|(go_at_call 15;refine (bu _ _ _ _ _ _ _ x y rfl rfl (by exact r1) (by exact r2) (by omega)).mono ?_;rintro e wC ⟨rfl,hsC0⟩;have hsC:aG wr wC:=((aG.refl wr).drew).trans hsC0))
     go_wp2
     go_ret
     exact ⟨ac (by have:=HN.out;simpa using this),hs.trans hsC⟩
   go_wp2
   go_ret
   have e:j=la:=by omega
   subst e;rw [List.take_of_length_le (by omega),List.take_of_length_le (by omega)] at ht;exact ⟨ac (by simp [ht]),hs⟩
 have hne:((la:Int)==(lb:Int))=false:=by simp;omega
 go_enter Try.func81,Try.ntmps81
 go_wp2
 go_ret
 exact ⟨ac (by simp;intro e;apply hlen;rw [←hl,←hl',e]),aG.refl _⟩
def ey {α:Type} [DecidableEq α] (x y:α):Bool:=decide (x=y)
theorem cU {α:Type} [DecidableEq α] (x:α):ey x x=true:=by simp [ey]
theorem cw {α:Type} [DecidableEq α] {x y:α} (h:x≠y):ey x y=false:=by simp [ey,h]
theorem eT (w:World) (x y:Int) (a b:Option Addr) (la lb ca cb:Nat) (zs us:List Int) (h:aA.Rd w [.slice a la ca] zs) (h':aA.Rd w [.slice b lb cb] us) (hla:la<=2097152):
 Calls Try.prog 97 #[.agg #[.int .i64 x,.slice a la ca],.agg #[.int .i64 y,.slice b lb cb]] w fun e w'=>e=.returned (.bool (ey (x,zs) (y,us)))/\Below w.heap.size w w':=by
 have hA:Below w.heap.size w ((w.alloc (.cells #[.int .i64 x,.slice a la ca] 114)).alloc (.cells #[.int .i64 y,.slice b lb cb] 114)):=((Below.refl _ _).alloc (Nat.le_refl _) _).alloc (by simp) _;obtain ⟨r1,hl,_,_⟩:=ap (h.below hA);obtain ⟨r2,hl',_,_⟩:=ap (h'.below hA);by_cases hxy:x=y
 . subst hxy
   go_enter Try.func97,Try.ntmps97
   go_wp2_with fail
   refine (bu _ _ _ _ _ _ _ zs us hl hl' r1 r2 hla).mono ?_
   rintro e w1 ⟨rfl,hs1⟩;have hB:=Below.andSame hA hs1;by_cases hz:zs=us
   . have hde:decide (zs=us)=true:=by simpa using hz
     have HZ:=ab hz;clear hz;go_wp2
     go_ret
     exact ⟨ac (by rw [HZ.out,cU]),hB⟩
   have hde:decide (zs=us)=false:=by simpa using hz
   go_wp2
   go_ret
   exact ⟨ac (cw (by simpa using hz)).symm,hB⟩
 have hne:(x==y)=false:=by simpa using hxy
 go_enter Try.func97,Try.ntmps97
 go_wp2
 go_ret
 exact ⟨ac (cw (by simp [hxy])).symm,hA⟩
theorem gq (w:World) (E E':TypeId) (a b:Option Addr) (la lb ca cb:Nat) (d d':List (Int×List Int)) (h:(aP E).Rd w [.slice a la ca] d) (h':(aP E').Rd w [.slice b lb cb] d') (hw:aq d<=2097152):
 Calls Try.prog 82 #[.slice a la ca,.slice b lb cb] w fun e w'=>e=.returned (.bool (decide (d=d')))/\Below w.heap.size w w':=by
 obtain ⟨hl,hc,hm⟩:=af h;obtain ⟨hl',hc',hm'⟩:=af h';have hla:la<=2097152:=by unfold aq at hw;omega
 by_cases hlen:la=lb
 . subst hlen
   go_enter Try.func82,Try.ntmps82
   go_wp2
   go_loopw [5] (fun i wr=>∃j:Nat,j<=la/\i=.int .i64 j/\d.take j=d'.take j/\Below w.heap.size w wr) (fun i _=>la-(intOf i).toNat)
   case atStart=>exact ⟨0,Nat.zero_le _,rfl,rfl,Below.refl _ _⟩
   obtain ⟨j,hj,rfl,ht,hb⟩:=hrel;by_cases hjn:j<la
   . rcases bf rfl h with h0'|⟨bx,ox,rfl,hbx,hcx⟩
     . omega
     rcases bf rfl h' with h0'|⟨bY,oy,rfl,hby,hcy⟩
     . omega
     have hdj:d[j]?=some (d[j]'(by omega)):=List.getElem?_eq_getElem (by omega);have hdj':d'[j]?=some (d'[j]'(by omega)):=List.getElem?_eq_getElem (by omega);generalize d[j]'(by omega)=x at hdj;generalize d'[j]'(by omega)=y at hdj';have hal:=cT hdj hdj';have hil:=bE hdj;obtain ⟨v0,v1,hv0,hv1,hrv⟩:=hcx j x hdj;obtain ⟨rfl,hrv'⟩:=bZ hrv;obtain ⟨av,cv,rfl⟩:=ak hrv';obtain ⟨u0,u1,hu0,hu1,hru⟩:=hcy j y hdj';obtain ⟨rfl,hru'⟩:=bZ hru;obtain ⟨au,cu,rfl⟩:=ak hru';have hw0:=(hb.cell (p:=⟨bx,ox+j*2,none⟩) hbx).trans hv0;have hw1:=(hb.cell (p:=⟨bx,ox+j*2+1,none⟩) hbx).trans hv1;have hw2:=(hb.cell (p:=⟨bY,oy+j*2,none⟩) hby).trans hu0;have hw3:=(hb.cell (p:=⟨bY,oy+j*2+1,none⟩) hby).trans hu1;have r1:=hrv'.below hb;have r2:=hru'.below hb;have zx:bx<wr.heap.size:=Nat.lt_of_lt_of_le hbx hb.size;have zy:bY<wr.heap.size:=Nat.lt_of_lt_of_le hby hb.size;have i1:(0:Int)<=(j:Int):=by omega
     have i2:(j:Int)<(la:Int):=by omega
     have HT:=ab ht;obtain ⟨x0,x1⟩:=x;obtain ⟨y0,y1⟩:=y;simp only at hw0 hw1 hw2 hw3 r1 r2 hil
     clear hcx hcy hdj hdj' hv0 hv1 hu0 hu1 hrv hru hrv' hru' ht;by_cases hxy:(x0,x1)=(y0,y1)
     . obtain ⟨rfl,rfl⟩:x0=y0/\x1=y1:=by simpa using hxy
       have HD:=ab (hal.1 rfl HT.out);have hde:=cU (x0,x1);clear hal hxy;go_wp2_with fail
       go_region_held3 (fun w'=>w'.cell? ⟨bx,ox+j*2,none⟩=some (.int .i64 x0)/\w'.cell? ⟨bx,ox+j*2+1,none⟩=some (.slice av x1.length cv)/\w'.cell? ⟨bY,oy+j*2,none⟩=some (.int .i64 x0)/\w'.cell? ⟨bY,oy+j*2+1,none⟩=some (.slice au x1.length cu))
        (first|(exact ⟨(hbC.cell (p:=⟨bx,ox+j*2,none⟩) zx).trans hw0,(hbC.cell (p:=⟨bx,ox+j*2+1,none⟩) zx).trans hw1,(hbC.cell (p:=⟨bY,oy+j*2,none⟩) zy).trans hw2,(hbC.cell (p:=⟨bY,oy+j*2+1,none⟩) zy).trans hw3⟩)|(exact ⟨hw0,hw1,hw2,hw3⟩)|go_keep)
        (first|(go_at_call 97;refine (eT _ _ _ _ _ _ _ _ _ x1 x1 (by exact r1.drew) (by exact r2.drew) (by omega)).mono ?_;rintro e wC ⟨rfl,hbC0⟩;have hbC:Below wr.heap.size wr wC:=(Below.refl wr.heap.size wr).drew.trans hbC0))
       go_wp2
       go_roundw
       case rel=>exact ⟨j+1,by omega,by go_num,HD.out,Below.andThen hb hbC⟩
       case measure=>simp [intOf];omega
     have HN:=ab (hal.2 hxy);have hde:=cw hxy;clear hal hxy;go_wp2_with fail
     go_region_held3 (fun w'=>w'.cell? ⟨bx,ox+j*2,none⟩=some (.int .i64 x0)/\w'.cell? ⟨bx,ox+j*2+1,none⟩=some (.slice av x1.length cv)/\w'.cell? ⟨bY,oy+j*2,none⟩=some (.int .i64 y0)/\w'.cell? ⟨bY,oy+j*2+1,none⟩=some (.slice au y1.length cu))
      (first|(exact ⟨(hbC.cell (p:=⟨bx,ox+j*2,none⟩) zx).trans hw0,(hbC.cell (p:=⟨bx,ox+j*2+1,none⟩) zx).trans hw1,(hbC.cell (p:=⟨bY,oy+j*2,none⟩) zy).trans hw2,(hbC.cell (p:=⟨bY,oy+j*2+1,none⟩) zy).trans hw3⟩)|(exact ⟨hw0,hw1,hw2,hw3⟩)|go_keep)
      (first|(go_at_call 97;refine (eT _ _ _ _ _ _ _ _ _ x1 y1 (by exact r1.drew) (by exact r2.drew) (by omega)).mono ?_;rintro e wC ⟨rfl,hbC0⟩;have hbC:Below wr.heap.size wr wC:=(Below.refl wr.heap.size wr).drew.trans hbC0))
     go_wp2
     go_ret
     exact ⟨ac (by have:=HN.out;simpa using this),Below.andThen hb hbC⟩
   go_wp2
   go_ret
   have e:j=la:=by omega
   subst e;rw [List.take_of_length_le (by omega),List.take_of_length_le (by omega)] at ht;exact ⟨ac (by simp [ht]),hb⟩
 have hne:((la:Int)==(lb:Int))=false:=by simp;omega
 go_enter Try.func82,Try.ntmps82
 go_wp2
 go_ret
 exact ⟨ac (by simp;intro e;apply hlen;rw [←hl,←hl',e]),Below.refl _ _⟩
theorem fB (w:World) (E E':TypeId) (a0 a1 a3 b0 b1 b3:Option Addr) (n0 c0 n1 c1 n3 c3 e0 e1 e3:Nat) (ss:List (List Int)) (cs:List (Int×List Int)) (f:Bool) (bs:List Int)
 (h0:aM.Rd w [.slice a0 n0 c0] ss) (h1:(aP E).Rd w [.slice a1 n1 c1] cs) (h3:aA.Rd w [.slice a3 n3 c3] bs) (k0:aM.Rd w [.slice b0 n0 e0] ss) (k1:(aP E').Rd w [.slice b1 n1 e1] cs) (k3:aA.Rd w [.slice b3 n3 e3] bs) (hw:aB (ss,cs,f,bs)<=2097152):
 Calls Try.prog 55 #[.agg #[.slice a0 n0 c0,.slice a1 n1 c1,.bool f,.slice a3 n3 c3],.agg #[.slice b0 n0 e0,.slice b1 n1 e1,.bool f,.slice b3 n3 e3]] w fun e w'=>e=.returned (.bool true)/\Below w.heap.size w w':=by
 obtain ⟨hn3,_,_⟩:=af h3;have hw0:aw ss<=2097152:=by unfold aB at hw;simp only at hw;omega
 have hw1:aq cs<=2097152:=by unfold aB at hw;simp only at hw;omega
 have hw3:n3<=2097152:=by unfold aB at hw;simp only at hw;omega
 have hA:Below w.heap.size w ((w.alloc (.cells #[.slice a0 n0 c0,.slice a1 n1 c1,.bool f,.slice a3 n3 c3] 54)).alloc (.cells #[.slice b0 n0 e0,.slice b1 n1 e1,.bool f,.slice b3 n3 e3] 54)):=
  ((Below.refl _ _).alloc (Nat.le_refl _) _).alloc (by simp) _
 go_enter Try.func55,Try.ntmps55
 go_wp2_with fail
 refine (eS _ _ _ _ _ _ _ ss ss (h0.below hA) (k0.below hA) hw0).mono ?_
 rintro e w1 ⟨rfl,hs1⟩;have hd1:decide (ss=ss)=true:=by simp
 have hc1:=hs1.cell;have z1:=hs1.size;have B1:=Below.andSame hA hs1;have z1a:w.heap.size<w1.heap.size:=by rw [z1];simp;omega
 have z1b:w.heap.size+1<w1.heap.size:=by rw [z1];simp
 clear hA hs1 z1;go_wp2_with fail
 refine (gq _ E E' _ _ _ _ _ _ cs cs (h1.below B1) (k1.below B1) hw1).mono ?_
 rintro e w2 ⟨rfl,hb2⟩;have hd2:decide (cs=cs)=true:=by simp
 obtain ⟨hc2,_⟩:=ew hb2;have B2:=Below.andThen B1 hb2;have hff:(f !=f)=false:=by simp
 clear hb2;go_wp2_with fail
 refine (bu _ _ _ _ _ _ _ bs bs hn3 hn3 (ap (h3.below B2)).1 (ap (k3.below B2)).1 hw3).mono ?_
 rintro e w3 ⟨rfl,hs3⟩;have hd3:decide (bs=bs)=true:=by simp
 have B3:=Below.andSame B2 hs3;clear hs3;go_wp2
 go_ret
 exact ⟨rfl,B3⟩
theorem hJ {w:World} {v:Value} {zs:List Int} {f:List Nat} (h:aA.ow w [v] zs f):(v=.slice none 0 0/\zs=[]/\f=[])∨∃g cap,v=.slice (some ⟨g,0,none⟩) zs.length cap/\f=[g]/\Go.Proofs.Ytfimpohbpccjaaa.Own .i64 3 w g (g+1) v zs:=by
 rcases h with ⟨h1,h2,h3⟩|⟨b,cap,cur,fps,h1,h2,h3,h4,h5,h6,h7,h8⟩
 . exact .inl ⟨by simpa using h1,h2,h3⟩
 have hv:v=.slice (some ⟨b,0,none⟩) zs.length cap:=by simpa using h1
 have hfl:fps.flatten=[]:=by
  rw [List.flatten_eq_nil_iff];intro f' hf';obtain ⟨i,hi⟩:=List.mem_iff_getElem?.1 hf';have hil:i<zs.length:=by rw [←h7];exact (List.getElem?_eq_some_iff.1 hi).1
  obtain ⟨f2,hf2,_,h10⟩:=h8 i _ (List.getElem?_eq_getElem hil);rw [hi] at hf2;simp at hf2
  rw [hf2];exact h10
 have h5':cur.size=cap*1:=h5;refine .inr ⟨b,cap,hv,by rw [h6,hfl],⟨by simp,.inr ⟨b,cap,cur,hv,Nat.le_refl _,h4,h2,by unfold maxLen;exact h3,h5',?_⟩⟩,fun g hg=>by rw [hv] at hg;simp [Value.ownBlock] at hg;omega⟩
 apply List.ext_getElem?
 intro i;rw [List.getElem?_take,List.getElem?_map];by_cases hi:i<zs.length
 . obtain ⟨f2,_,h9,_⟩:=h8 i _ (List.getElem?_eq_getElem hi)
   have h9':(cur.toList.drop (i*1)).take 1=[.int .i64 zs[i]]:=h9;have:((cur.toList.drop (i*1)).take 1)[0]?=some (.int .i64 zs[i]):=by rw [h9'];rfl
   rw [List.getElem?_take,if_pos (by omega),List.getElem?_drop] at this;rw [if_pos (by omega),List.getElem?_eq_getElem hi];simpa using this
 rw [if_neg (by omega),List.getElem?_eq_none (by omega)];rfl
theorem hU {w:World} {g n cap:Nat} {zs:List Int} (h:Go.Proofs.Ytfimpohbpccjaaa.Own .i64 3 w g (g+1) (.slice (some ⟨g,0,none⟩) n cap) zs):aA.ow w [.slice (some ⟨g,0,none⟩) n cap] zs [g]:=by
 have hl:=h.length;obtain ⟨fp,ho,_,hr⟩:=aH h.1;rcases ho with ⟨h1,_⟩|⟨b,cap',cur,fps,h1,h2,h3,h4,h5,h6,h7,h8⟩
 . simp at h1
 simp only [List.cons.injEq,Value.slice.injEq,Option.some.injEq,Addr.mk.injEq,and_true] at h1
 obtain ⟨rfl,_,rfl⟩:=h1;refine .inr ⟨g,cap,cur,zs.map fun _=>[],by rw [hl],h2,h3,h4,h5,by simp,by simp,fun i x hx=>?_⟩
 obtain ⟨f2,_,h9⟩:=h8 i x hx;exact ⟨[],by rw [List.getElem?_map,hx];rfl,h9.1,rfl⟩
theorem bT (w:World) (a:Option Addr) (n cap:Nat) (zs:List Int) (k0:Int) (fp:List Nat) (h:aA.Mine w [.slice a n cap] zs fp) (hlen:n<=2097152) (hk:0<=k0) (hk':k0<=4194304):
 Calls Try.prog 17 #[.slice a n cap,.int .i64 k0] w fun e w'=>
  e=.returned (.int .i64 (k0+n))/\aA.Mine w' [.slice a n cap] (bk id k0 n) fp/\ax fp w w':=by
 rcases hJ h.1 with ⟨hv,hx0,hf0⟩|⟨g1,cap1,hv,hf0,ho1⟩
 . simp only [Value.slice.injEq] at hv
   obtain ⟨rfl,rfl,rfl⟩:=hv;subst hx0;subst hf0;have hO:Go.Proofs.Ytfimpohbpccjaaa.Own .i64 3 w w.heap.size (w.heap.size+1) (.slice none 0 0) []:=⟨World.ownsRow_nil _ _ _ _,by simp [Value.ownBlock]⟩;refine (dw w _ _ _ _ _ [] k0 hO hlen hk hk').mono ?_
   rintro e w' ⟨rfl,_,hb⟩;exact ⟨rfl,⟨.inl ⟨rfl,rfl,rfl⟩,h.2⟩,hb.os,hb.tape,hb.output,hb.size,fun k hk _=>hb.block k hk (.inl hk)⟩
 simp only [Value.slice.injEq] at hv
 obtain ⟨rfl,rfl,rfl⟩:=hv;subst hf0;refine (dw w _ _ _ _ _ zs k0 ho1 hlen hk hk').mono ?_
 rintro e w' ⟨rfl,ho,hb⟩;exact ⟨rfl,⟨hU ho,h.2⟩,hb.os,hb.tape,hb.output,hb.size,fun k hk hf=>hb.block k hk (by simp at hf;omega)⟩
def gQ (k:Int) (x:List Int):List Int:=bk id k x.length
def dQ (k0:Int) (d:List (List Int)):List (List Int):=du List.length gQ k0 d
def cI (d:List (List Int)):Nat:=aE (d.map List.length)
theorem eH (w:World) (a:Option Addr) (n cap:Nat) (d:List (List Int)) (k0:Int) (fp:List Nat) (h:aM.Mine w [.slice a n cap] d fp) (hw:aw d<=2097152) (hk:0<=k0) (hk':k0<=2097152):
 Calls Try.prog 70 #[.slice a n cap,.int .i64 k0] w fun e w'=>e=.returned (.int .i64 (k0+(cI d:Int)))/\aM.Mine w' [.slice a n cap] (dQ k0 d) fp/\ax fp w w':=by
 obtain ⟨hl,hc,hm⟩:=af h.rd;have hmL:(dQ k0 d).length=d.length:=cl _ _ _ _;have hnn:n<=2097152:=by unfold aw at hw;omega
 go_enter Try.func70,Try.ntmps70
 go_wp2
 go_loopw [1,5] (fun kk i wr=>∃j:Nat,j<=n/\i=.int .i64 j/\kk=.int .i64 (k0+(aE ((d.map List.length).take j):Int))/\aM.Mine wr [.slice a n cap] ((dQ k0 d).take j++d.drop j) fp/\ax fp w wr) (fun _ i _=>n-(intOf i).toNat)
 case atStart=>exact ⟨0,Nat.zero_le _,rfl,by simp [aE],by simpa using h,ax.refl _ _⟩
 obtain ⟨j,hj,rfl,rfl,ho,hb⟩:=hrel;by_cases hjn:j<n
 . have hdj:d[j]?=some (d[j]'(by omega)):=List.getElem?_eq_getElem (by omega)
   generalize d[j]'(by omega)=x at hdj;have hst:=aV (l:=d.map List.length) (j:=j) (x:=x.length) (by rw [List.getElem?_map,hdj];rfl);have hle:=bq (l:=d.map List.length) (j+1);have hwt:aE (d.map List.length)<=2097152:=by unfold aw at hw;omega
   have HM:=ab (dd hmL (dv (c:=List.length) (mk:=gQ) (k:=k0) hdj));have hat:=dM (m:=dQ k0 d) hmL hdj;have HW:=ab hst;generalize aE ((d.map List.length).take j)=S at hst HM HW;have hS:S+x.length<=2097152:=by omega
   rcases ck ho with h0'|⟨g,rfl⟩
   . omega
   obtain ⟨cs1,f1,ow1,_,_,hf1,hcc,_,back,_⟩:=dt ho hat;have hcl:=aA.rdLen (aA.owRd ow1.1);obtain ⟨v,rfl⟩:∃v,cs1=[v]:=by
    match cs1,hcl with
    | [v],_=>exact ⟨v,rfl⟩
   have hcv:wr.cell? ⟨g,j,none⟩=some v:=by
    have:=hcc 0 (by show 0<1;omega);rw [show j*aA.n+0=j by show j*1+0=j;omega] at this;exact this
   obtain ⟨av,cv,rfl⟩:=ak ow1.rd;have hlt:=ho.lt;have HBK:=ab back;have HOW:=ab ow1;clear hcc back hcl ow1 hat hdj ho hst;go_wp2_with fail
   refine (bT _ _ _ _ x _ f1 HOW.out (by omega) (by omega) (by omega)).mono ?_
   rintro e w2 ⟨rfl,o2,hb2⟩;have hO:=HBK.out w2 _ o2 (fun b hb hbf=>hb2.block b (hlt b hb) hbf) hb2.size;have e2:gQ (k0+(S:Int)) x=bk id (k0+(S:Int)) x.length:=rfl;rw [←e2,HM.out] at hO;have HO:=ab hO;have HB:=hb.trans (hb2.mono hf1);clear hO o2 hb2 HBK hb hlt e2;go_wp2
   go_roundw
   case rel=>exact ⟨j+1,by omega,by go_num,by rw [HW.out];go_num,HO.out,HB⟩
   case measure=>simp [intOf];omega
 go_wp2
 go_ret
 have e:j=n:=by omega
 subst e;have ht:(d.map List.length).take j=d.map List.length:=List.take_of_length_le (by simp;omega);rw [List.take_of_length_le (by omega),List.drop_of_length_le (by omega),List.append_nil] at ho;exact ⟨ar (by rw [ht];rfl),ho,hb⟩
def cK (x:Int×List Int):Nat:=1+x.2.length
def dR (k:Int) (x:Int×List Int):Int×List Int:=(k,bk id (k+1) x.2.length)
def di (k0:Int) (d:List (Int×List Int)):List (Int×List Int):=du cK dR k0 d
def bF (d:List (Int×List Int)):Nat:=aE (d.map cK)
theorem da (d:List (Int×List Int)):bF d=aq d:=by
 unfold bF aq;induction d with
 | nil=>rfl
 | cons x d ih=>
  simp only [List.map_cons,aE,List.foldr_cons,List.length_cons] at *
  unfold cK at *;omega
theorem fC (w:World) (a:Option Addr) (n cap:Nat) (d:List (Int×List Int)) (k0:Int) (fp:List Nat) (h:(aP 114).Mine w [.slice a n cap] d fp) (hw:aq d<=2097152) (hk:0<=k0) (hk':k0+(aq d:Int)<=2097153):
 Calls Try.prog 71 #[.slice a n cap,.int .i64 k0] w fun e w'=>e=.returned (.int .i64 (k0+(bF d:Int)))/\(aP 114).Mine w' [.slice a n cap] (di k0 d) fp/\ax fp w w':=by
 obtain ⟨hl,hc,hm⟩:=af h.rd;have hmL:(di k0 d).length=d.length:=cl _ _ _ _;have hnn:n<=2097152:=by unfold aq at hw;omega
 have hwt:=da d;go_enter Try.func71,Try.ntmps71
 go_wp2
 go_loopw [1,5] (fun kk i wr=>∃j:Nat,j<=n/\i=.int .i64 j/\kk=.int .i64 (k0+(aE ((d.map cK).take j):Int))/\(aP 114).Mine wr [.slice a n cap] ((di k0 d).take j++d.drop j) fp/\ax fp w wr) (fun _ i _=>n-(intOf i).toNat)
 case atStart=>exact ⟨0,Nat.zero_le _,rfl,by simp [aE],by simpa using h,ax.refl _ _⟩
 obtain ⟨j,hj,rfl,rfl,ho,hb⟩:=hrel;by_cases hjn:j<n
 . have hdj:d[j]?=some (d[j]'(by omega)):=List.getElem?_eq_getElem (by omega)
   generalize d[j]'(by omega)=x at hdj;have hst:=aV (l:=d.map cK) (j:=j) (x:=cK x) (by rw [List.getElem?_map,hdj];rfl);have hle:=bq (l:=d.map cK) (j+1);unfold bF at hwt;have HM:=ab (dd hmL (dv (c:=cK) (mk:=dR) (k:=k0) hdj));have hat:=dM (m:=di k0 d) hmL hdj;have HW:=ab hst;generalize aE ((d.map cK).take j)=S at hst HM HW;have hcx:cK x=1+x.2.length:=rfl;have hS:S+1+x.2.length<=2097152:=by omega
   have hS2:k0+(S:Int)<=2097153:=by omega
   rcases ck ho with h0'|⟨g,rfl⟩
   . omega
   obtain ⟨cs1,f1,ow1,hgf,hgp,hf1,hcc,hfz,_,back⟩:=dt ho hat;have hcl:=tWr.rdLen (tWr.owRd ow1.1);obtain ⟨v0,v1,rfl⟩:∃v0 v1,cs1=[v0,v1]:=by
    match cs1,hcl with
    | [v0,v1],_=>exact ⟨v0,v1,rfl⟩
   obtain ⟨x0,x1⟩:=x;obtain ⟨fa,fb,hfe,⟨⟨hv0,hfa⟩,_⟩,hmv,_⟩:=cN (t:=cx) (u:=aA) (vs:=[v0]) (us:=[v1]) rfl ow1;simp at hv0
   subst hv0;subst hfa;rw [List.nil_append] at hfe;subst hfe;have hc0:wr.cell? ⟨g,j*2,none⟩=some (.int .i64 x0):=hcc 0 (by show 0<2;omega);have hc1:wr.cell? ⟨g,j*2+1,none⟩=some v1:=hcc 1 (by show 1<2;omega);obtain ⟨av,cv,rfl⟩:=ak hmv.rd;have hlt:=ho.lt;have hf0:=hfz (j*2);have hT1:ax [g] wr (wr.setCell ⟨g,j*2,none⟩ (.int .i64 (k0+(S:Int)))):=ax.setCell _ (by simp);have hmv1:=hmv.kept hT1 (fun b hb hb'=>hgf (by simp at hb';exact hb'▸hb));have HBK:=ab back;have HOW:=ab hmv1;have HT1:=ab hT1;have HLT:=ab hlt;have HCL:=ab hc1;simp only at hS
   clear hcc back hcl ow1 hat hdj ho hst hmv hmv1 hT1 hlt hfz;go_wp2_with fail
   refine (bT _ _ _ _ x1 _ f1 HOW.out (by omega) (by omega) (by omega)).mono ?_
   rintro e w2 ⟨rfl,o2,hb2⟩;have hsz:(wr.setCell ⟨g,j*2,none⟩ (.int .i64 (k0+(S:Int)))).heap.size=wr.heap.size:=World.size_setCell _ _ _;have hglt:g<wr.heap.size:=HLT.out g hgp;have hO:=HBK.out w2 [.int .i64 (k0+(S:Int)),.slice av x1.length cv] (k0+(S:Int),bk id (k0+(S:Int)+1) x1.length)
    (bI (t:=cx) (u:=aA) (vs:=[_]) (us:=[_]) (f1:=[]) ⟨⟨rfl,rfl⟩,by simp⟩ o2 (by simp))
    (fun b hb hbf hbg=>(hb2.block b (by rw [hsz];exact HLT.out b hb) hbf).trans (HT1.out.block b (HLT.out b hb) (by simpa using hbg)))
    (Nat.le_trans HT1.out.size hb2.size)
    (fun cur hcur hcs hnc=>by
     refine ⟨cur.setIfInBounds (j*2) (.int .i64 (k0+(S:Int))),?_,by simp,fun k=>?_⟩
     . rw [hb2.block g (by rw [hsz];exact hglt) hgf]
       exact heap_setCell_same wr g _ cur _ _ hcur
     rw [Array.toList_setIfInBounds];have hcs':cur.size=cap*2:=hcs;by_cases h0:k=j*2
     . subst h0
       rw [if_pos (by omega),List.getElem?_set_self (by simp;omega),Nat.sub_self];rfl
     rw [List.getElem?_set_ne (by omega)];by_cases h1:k=j*2+1
     . subst h1
       rw [if_pos (by omega),Nat.add_sub_cancel_left];have:=HCL.out;rw [cell_of_row wr g _ cur _ (0,0) hcur] at this;rw [Array.getElem?_toList,this];rfl
     rw [if_neg (by omega)])
   have e2:dR (k0+(S:Int)) (x0,x1)=(k0+(S:Int),bk id (k0+(S:Int)+1) x1.length):=rfl;rw [←e2,HM.out] at hO;have HO:=ab hO;have HB:=(hb.trans (HT1.out.mono (by simpa using hgp))).trans (hb2.mono hf1);clear hO o2 hb2 HBK hb e2 hsz HT1 HLT HCL;go_wp2
   go_roundw
   case rel=>exact ⟨j+1,by omega,by go_num,by rw [HW.out,hcx];go_num,HO.out,HB⟩
   case measure=>simp [intOf];omega
 go_wp2
 go_ret
 have e:j=n:=by omega
 subst e;have ht:(d.map cK).take j=d.map cK:=List.take_of_length_le (by simp;omega);rw [List.take_of_length_le (by omega),List.drop_of_length_le (by omega),List.append_nil] at ho;exact ⟨ar (by rw [ht];rfl),ho,hb⟩
def Box (w:World) (B:Nat) (T:TypeId) (cs:Array Value):Prop:=w.heap[B]?=some (.cells cs T (0,0))
theorem Box.cell {w:World} {B:Nat} {T:TypeId} {cs:Array Value} (h:Box w B T cs) (j:Nat):w.cell? ⟨B,j,none⟩=cs[j]?:=cell_of_row w B j cs T (0,0) h
theorem Box.cells4 {w:World} {B:Nat} {T:TypeId} {v0 v1 v2 v3:Value} (h:Box w B T #[v0,v1,v2,v3]):w.cell? ⟨B,0,none⟩=some v0/\w.cell? ⟨B,1,none⟩=some v1/\w.cell? ⟨B,2,none⟩=some v2/\w.cell? ⟨B,3,none⟩=some v3:=
 ⟨h.cell 0,h.cell 1,h.cell 2,h.cell 3⟩
theorem Box.cells2 {w:World} {B:Nat} {T:TypeId} {v0 v1:Value} (h:Box w B T #[v0,v1]):w.cell? ⟨B,0,none⟩=some v0/\w.cell? ⟨B,1,none⟩=some v1:=⟨h.cell 0,h.cell 1⟩
theorem Box.frozen {w:World} {B:Nat} {T:TypeId} {cs:Array Value} (h:Box w B T cs) (j:Nat):w.frozen? ⟨B,j,none⟩=false:=frozen_of_row w B j cs T h
theorem Box.lt {w:World} {B:Nat} {T:TypeId} {cs:Array Value} (h:Box w B T cs):B<w.heap.size:=(Array.getElem?_eq_some_iff.1 h).1
theorem Box.kept {w w':World} {B:Nat} {T:TypeId} {cs:Array Value} (h:Box w B T cs) (hk:w'.heap[B]?=w.heap[B]?):Box w' B T cs:=hk.trans h
theorem Box.below {w w':World} {B N:Nat} {T:TypeId} {cs:Array Value} (h:Box w B T cs) (hb:Below N w w') (hN:B<N):Box w' B T cs:=h.kept (hb.block B hN)
theorem Box.turned {w w':World} {B:Nat} {T:TypeId} {cs:Array Value} {fp:List Nat} (h:Box w B T cs) (ht:ax fp w w') (hB:B∉fp):Box w' B T cs:=h.kept (ht.block B h.lt hB)
theorem Box.same {w w':World} {B:Nat} {T:TypeId} {cs:Array Value} (h:Box w B T cs) (hs:aG w w'):Box w' B T cs:=h.kept (by rw [hs.heap])
theorem Box.set {w:World} {B:Nat} {T:TypeId} {cs:Array Value} (h:Box w B T cs) (j:Nat) (v:Value):Box (w.setCell ⟨B,j,none⟩ v) B T (cs.setIfInBounds j v):=heap_setCell_same w B j cs T v h
theorem Box.other {w:World} {B g:Nat} {T:TypeId} {cs:Array Value} (h:Box w B T cs) (hne:B≠g) (j:Nat) (v:Value):Box (w.setCell ⟨g,j,none⟩ v) B T cs:=h.kept (Below.heap_setCell _ _ _ _ hne)
theorem Box.alloc {w:World} {B:Nat} {T:TypeId} {cs:Array Value} (h:Box w B T cs) (o:Obj):Box (w.alloc o) B T cs:=h.kept (((Below.refl (B+1) w).alloc h.lt o).block B (Nat.lt_succ_self _))
theorem Box.new (w:World) (T:TypeId) (cs:Array Value):Box (w.alloc (.cells cs T)) w.heap.size T cs:=heap_alloc_new w _
theorem ax.alloc {fp:List Nat} {w w':World} (h:ax fp w w') (o:Obj):ax fp w (w'.alloc o):=
 ⟨h.os,h.tape,h.output,Nat.le_trans h.size (by simp),fun k hk hf=>(((Below.refl (k+1) w').alloc (Nat.lt_of_lt_of_le hk h.size) o).block k (Nat.lt_succ_self _)).trans (h.block k hk hf)⟩
theorem ax.below {fp:List Nat} {w w':World} {N:Nat} (h:ax fp w w') (hN:N<=w.heap.size) (hf:∀b∈fp,N<=b):Below N w w':=
 ⟨h.os,h.tape,h.output,h.size,fun k hk=>h.block k (by omega) (fun hm=>by have:=hf k hm;omega)⟩
theorem ax.ofBelow {w w':World} (h:Below w.heap.size w w') (fp:List Nat):ax fp w w':=⟨h.os,h.tape,h.output,h.size,fun k hk _=>h.block k hk⟩
theorem Ty.Mine.below {t:Ty} {w w':World} {vs:List Value} {d:t.D} {fp:List Nat} (h:t.Mine w vs d fp) (hb:Below w.heap.size w w'):t.Mine w' vs d fp:=h.kept (ax.ofBelow hb []) (by simp)
theorem Ty.Mine.alloc {t:Ty} {w:World} {vs:List Value} {d:t.D} {fp:List Nat} (h:t.Mine w vs d fp) (o:Obj):t.Mine (w.alloc o) vs d fp:=h.kept ((ax.refl [] w).alloc o) (by simp)
theorem Ty.Mine.setCell {t:Ty} {w:World} {vs:List Value} {d:t.D} {fp:List Nat} {g j:Nat} (h:t.Mine w vs d fp) (hg:g∉fp) (v:Value):t.Mine (w.setCell ⟨g,j,none⟩ v) vs d fp:=
 h.kept (ax.setCell (fp:=[g]) v (by simp)) (fun b hb hb'=>hg (by simp at hb';exact hb'▸hb))
theorem Ty.Rd.turned {t:Ty} {w w':World} {vs:List Value} {d:t.D} {fp fq:List Nat} (h:t.rd w vs d fp) (ht:ax fq w w') (hd:∀b∈fp,b∉fq):t.rd w' vs d fp:=t.rdKept h (fun b hb=>ht.block b (t.rdLt h b hb) (hd b hb)) ht.size
theorem gR (w:World) (E E':TypeId) (v0 v1 v3 u0 u1 u3:Value) (f:Bool) (ss:List (List Int)) (cs:List (Int×List Int)) (bs:List Int) (h:(dP E).Rd w [v0,v1,.bool f,v3] (ss,cs,f,bs)) (k:(dP E').Rd w [u0,u1,.bool f,u3] (ss,cs,f,bs)) (hw:aB (ss,cs,f,bs)<=2097152):
 Calls Try.prog 55 #[.agg #[v0,v1,.bool f,v3],.agg #[u0,u1,.bool f,u3]] w fun e w'=>e=.returned (.bool true)/\Below w.heap.size w w':=by
 obtain ⟨a0,c0,a1,c1,a3,c3,rfl,rfl,_,rfl,h0,h1,h3⟩:=fA h;obtain ⟨b0,e0,b1,e1,b3,e3,rfl,rfl,_,rfl,k0,k1,k3⟩:=fA k;exact fB w E E' _ _ _ _ _ _ _ _ _ _ _ _ _ _ _ ss cs f bs h0 h1 h3 k0 k1 k3 hw
def dn (n s lost il:Int):Bool:=if lost=-1 then decide (il=0) else inB lost 0 (n-1)&&inB il 0 s
theorem gI {n s lost il:Int}:dn n s lost il=true ↔ (lost=-1/\il=0)∨(¬lost=-1/\0<=lost/\lost<=n-1/\0<=il/\il<=s):=by
 unfold dn;split
 . rename_i h
   simp [h]
 rename_i h
 rw [Bool.and_eq_true,bQ,bQ];simp [h,and_assoc]
theorem fX (w:World) (n s lost il:Int) (hn:3<=n/\n<=5):Calls Try.prog 64 #[.agg #[.int .i64 n,.int .i64 s],.int .i64 lost,.int .i64 il] w fun e w'=>e=.returned (.bool (dn n s lost il))/\Below w.heap.size w w':=by
 have hA:=ai w (.cells #[.int .i64 n,.int .i64 s] 30);obtain ⟨k0,k1⟩:=(cL.new w 30 n s).cells;have gw:IntKind.i64.wrap (n-1)=n-1:=IntWalk.i64_in _ (by omega);by_cases h:lost=-1
 . by_cases hb:il=0
   . go_enter Try.func64,Try.ntmps64
     go_wp2
     go_ret
     exact ⟨ac (by unfold dn;rw [if_pos h];simp [hb]),hA⟩
   go_enter Try.func64,Try.ntmps64
   go_wp2
   go_ret
   exact ⟨ac (by unfold dn;rw [if_pos h];simp [hb]),hA⟩
 have HD:Hid (dn n s lost il=(inB lost 0 (n-1)&&inB il 0 s)):=by unfold Hid dn;rw [if_neg h]
 go_enter Try.func64,Try.ntmps64
 go_wp2_with fail
 refine (bg _ _ _ _).mono ?_
 rintro e w1 ⟨rfl,rfl⟩;by_cases h1:inB lost 0 (n-1)=true
 . go_wp2_with fail
   refine (bg _ _ _ _).mono ?_
   rintro e w1 ⟨rfl,rfl⟩;go_wp2
   go_ret
   exact ⟨ac (by rw [HD.out,h1];rfl),hA⟩
 have h1':inB lost 0 (n-1)=false:=by simpa using h1
 go_wp2
 go_ret
 exact ⟨ac (by rw [HD.out,h1'];rfl),hA⟩
end Go.Proofs.Ytfimpohbpccjaaa

/-
 The walks of both ReadSec (the program's and the specification's): what a sector reads as, in memory of its own. Condition: the disk weighs at most 2097152.
-/
import Derived.Test.YtfimpohbpccjaaaGreatRowGetBlockSq5
import Derived.Test.YtfimpohbpccjaaaGreatRowGetBlockSq7
import Derived.Test.YtfimpohbpccjaaaGreatRowGetBlockSq8
import Derived.Test.YtfimpohbpccjaaaGreatRowGetBlockSq3
import Derived.Test.YtfimpohbpccjaaaGreatRowGetBlockSq6

set_option maxRecDepth 100000
set_option maxHeartbeats 8000000
set_option linter.unusedSimpArgs false

namespace Go.Proofs.YtfimpohbpccjaaaGreat
open Go.RowKit

abbrev bf (E F:TypeId):Ty:=bF (ft E) F
abbrev ax:Type:=List (List Int)×List (Int×List Int)×Bool×List Int
def aE (d:List ax):Nat:=d.length+bl (d.map aF)
theorem cE {d:List ax} {j:Nat} {x:ax} (h:d[j]?=some x):aF x<=aE d:=by
 have h1:=bD (l:=d.map aF) (j:=j) (x:=aF x) (by rw [List.getElem?_map,h];rfl);have h2:=ci (l:=d.map aF) (j+1);unfold aE;omega
theorem dl {E:TypeId} {w:World} {v0 v1 v2 v3:Value} {x:ax} (h:(ft E).Rd w [v0,v1,v2,v3] x):
 ∃a0 c0 a1 c1 a3 c3 ss cs f bs,x=(ss,cs,f,bs)/\v0=.slice a0 ss.length c0/\v1=.slice a1 cs.length c1/\v2=.bool f/\v3=.slice a3 bs.length c3/\bj.Rd w [.slice a0 ss.length c0] ss/\(aV E).Rd w [.slice a1 cs.length c1] cs/\aI.Rd w [.slice a3 bs.length c3] bs:=by
 obtain ⟨ss,cs,f,bs⟩:=x;obtain ⟨a0,c0,a1,c1,a3,c3,rfl,rfl,rfl,rfl,h0,h1,h3⟩:=gj h;exact ⟨a0,c0,a1,c1,a3,c3,ss,cs,f,bs,rfl,rfl,rfl,rfl,rfl,h0,h1,h3⟩
theorem gl (w:World) (E F:TypeId) (a:Option Addr) (n cap:Nat) (d:List ax) (left:Int) (h:(bf E F).Rd w [.slice a n cap] d) (h0:0<=left) (h1:left<=1048576):
 Calls Tryz.prog 9 #[.slice a n cap,.int .i64 left] w fun e w'=>e=.returned (.int .i64 (bH left (aE d)))/\Below w.heap.size w w':=by
 obtain ⟨hl,hc,hm⟩:=ag h;by_cases hlt:(n:Int)<=left
 . go_enter Tryz.func9,Tryz.ntmps9
   go_wp2
   go_loopw [1,5] (fun l i wr=>∃j:Nat,j<=n/\i=.int .i64 j/\l=.int .i64 (left-n-(bl ((d.map aF).take j):Int))/\(bl ((d.map aF).take j):Int)<=left-n/\Below w.heap.size w wr) (fun _ i _=>n-(intOf i).toNat)
   case atStart=>exact ⟨0,Nat.zero_le _,rfl,by simp [bl],by simp [bl];omega,Below.refl _ _⟩
   obtain ⟨j,hj,rfl,rfl,hs,hb⟩:=hrel;by_cases hjn:j<n
   . rcases bS rfl h with h0'|⟨b,off,rfl,hbl,hcs⟩
     . omega
     have hdj:d[j]?=some (d[j]'(by omega)):=List.getElem?_eq_getElem (by omega);generalize d[j]'(by omega)=x at hdj;obtain ⟨v0,v1,v2,v3,hv0,hv1,hv2,hv3,hrv⟩:=hcs j x hdj;obtain ⟨a0,c0,a1,c1,a3,c3,ss,cs,f,bs,rfl,rfl,rfl,rfl,rfl,r0,r1,r3⟩:=dl hrv;have hw0:=(hb.cell (p:=⟨b,off+j*4,none⟩) hbl).trans hv0;have hw1:=(hb.cell (p:=⟨b,off+j*4+1,none⟩) hbl).trans hv1;have hw2:=(hb.cell (p:=⟨b,off+j*4+2,none⟩) hbl).trans hv2;have hw3:=(hb.cell (p:=⟨b,off+j*4+3,none⟩) hbl).trans hv3;have hst:=bD (l:=d.map aF) (j:=j) (x:=aF (ss,cs,f,bs)) (by rw [List.getElem?_map,hdj];rfl);have HW:Hid (bl ((d.map aF).take (j+1))=bl ((d.map aF).take j)+aF (ss,cs,f,bs)):=hst;have hle:=ci (l:=d.map aF) (j+1);have HE:Hid (aE d=n+bl (d.map aF)):=by unfold Hid aE;rw [hl]
     generalize hS:bl ((d.map aF).take j)=S at hs HW;generalize hT:bl (d.map aF)=T at hle HE;have i1:(0:Int)<=(j:Int):=by omega
     have i2:(j:Int)<(n:Int):=by omega
     clear hcs hst hS hT hdj hv0 hv1 hv2 hv3 hrv;have SZ:=ab (hH wr E a0 a1 a3 _ c0 _ c1 _ c3 ss cs f bs (left-n-(S:Int)) (r0.below hb) (r1.below hb) (r3.below hb) (by omega) (by omega));clear r0 r1 r3;generalize aF (ss,cs,f,bs)=M at HW SZ;by_cases hx:(M:Int)<=left-n-S
     . have hq:=aD hx
       go_wp2_with fail
       refine SZ.out.mono ?_
       rintro e w1 ⟨rfl,hb1⟩;have hB:=Below.andThen hb hb1;go_wp2
       go_roundw
       case rel=>exact ⟨j+1,by omega,by go_num,by rw [HW.out];go_num,by rw [HW.out];omega,hB⟩
       case measure=>simp [intOf];omega
     have hq:=ar (left:=left-n-(S:Int)) (wt:=M) (by omega);have hgt:left<((aE d:Nat):Int):=by rw [HE.out];have:=HW.out;omega
     go_wp2_with fail
     refine SZ.out.mono ?_
     rintro e w1 ⟨rfl,hb1⟩;have hB:=Below.andThen hb hb1;go_wp2
     go_ret
     exact ⟨ai (ar (by omega)).symm,hB⟩
   go_wp2
   go_ret
   have e:j=n:=by omega
   subst e;have ht:(d.map aF).take j=d.map aF:=List.take_of_length_le (by simp;omega);rw [ht] at hs;refine ⟨ai ?_,hb⟩
   rw [ht,aD (by unfold aE;omega)];unfold aE;omega
 have hgt:left<((aE d:Nat):Int):=by unfold aE;omega
 go_enter Tryz.func9,Tryz.ntmps9
 go_wp2
 go_ret
 exact ⟨ai (ar (by omega)).symm,Below.refl _ _⟩
theorem Tryz.infoMem:(Tryz.prog.info? 66).map (fun i=>(i.zero,i.size,i.bytes))=some (some (.agg #[.slice none 0 0,.slice none 0 0,.bool false,.slice none 0 0]),4,80):=by kernel_rfl
theorem gm (w:World) (E F:TypeId) (a:Option Addr) (n cap:Nat) (d:List ax) (h:(bf E F).Rd w [.slice a n cap] d) (hw:aE d<=1048576):
 Calls Tryz.prog 16 #[.slice a n cap] w fun e w'=>e=.returned (.slice (some ⟨w.heap.size,0,none⟩) n n)/\(bf 98 66).Own w' w.heap.size w'.heap.size [.slice (some ⟨w.heap.size,0,none⟩) n n] d/\Below w.heap.size w w':=by
 obtain ⟨hl,hc,hm⟩:=ag h;obtain ⟨i0,hi,hz0,hz1,hz2⟩:=info_parts Tryz.infoMem;have hn:n<=1048576:=by unfold aE at hw;omega
 have hb3:i0.bytes*n<=281474976710656:=by rw [hz2];omega
 have hm3:n<=maxLen:=by unfold maxLen;omega
 go_enter Tryz.func16,Tryz.ntmps16
 go_wp2_with (at_make;refine wpList_make_full _ rfl _ _ 32 rfl w.heap.size 66 i0 (.agg #[.slice none 0 0,.slice none 0 0,.bool false,.slice none 0 0]) 4 Tryz.underlying32 hi hz0 hz1 _ _ _ _ n rfl rfl rfl rfl hb3 hm3 (Nat.le_refl _) ?_;intro w1 hown hgrow)
 have hO:=dM (t:=ft 98) (z:=([],[],false,[])) hown (by omega) rfl (fun _=>⟨[],[],rfl,.inl ⟨rfl,rfl,rfl⟩,⟨[],[],rfl,.inl ⟨rfl,rfl,rfl⟩,⟨[],[],rfl,⟨rfl,rfl⟩,.inl ⟨rfl,rfl,rfl⟩,rfl⟩,rfl⟩,rfl⟩);have hB1:Below w.heap.size w w1:=(Below.refl _ _).grown hgrow (Nat.le_refl _) (by simp);clear hown hgrow;go_loopw [4] (fun i wr=>∃j:Nat,j<=n/\i=.int .i64 j/\(bf 98 66).Own wr w.heap.size wr.heap.size [.slice (some ⟨w.heap.size,0,none⟩) n n] (d.take j++List.replicate (n-j) ([],[],false,[]))/\Below w.heap.size w wr) (fun i _=>n-(intOf i).toNat)
 case atStart=>exact ⟨0,Nat.zero_le _,rfl,by simpa using hO,hB1⟩
 clear hO hB1;obtain ⟨j,hj,rfl,ho,hb⟩:=hrel;by_cases hjn:j<n
 . rcases bS rfl h with h0'|⟨b,off,rfl,hbl,hcs⟩
   . omega
   have hdj:d[j]?=some (d[j]'(by omega)):=List.getElem?_eq_getElem (by omega);have HS:=cB d ([],[],false,[]) _ j hdj;generalize d[j]'(by omega)=x at hdj HS;have hlen:=Nat.le_trans (cE hdj) hw;rw [hl] at HS;have HS':Hid _:=HS;obtain ⟨v0,v1,v2,v3,hv0,hv1,hv2,hv3,hrv⟩:=hcs j x hdj;obtain ⟨a0,c0,a1,c1,a3,c3,ss,cs,f,bs,rfl,rfl,rfl,rfl,rfl,r0,r1,r3⟩:=dl hrv;have hw0:=(hb.cell (p:=⟨b,off+j*4,none⟩) hbl).trans hv0;have hw1:=(hb.cell (p:=⟨b,off+j*4+1,none⟩) hbl).trans hv1;have hw2:=(hb.cell (p:=⟨b,off+j*4+2,none⟩) hbl).trans hv2;have hw3:=(hb.cell (p:=⟨b,off+j*4+3,none⟩) hbl).trans hv3;have i1:(0:Int)<=(j:Int):=by omega
   have i2:(j:Int)<(n:Int):=by omega
   have TM:=ab (hP wr E a0 a1 a3 _ c0 _ c1 _ c3 ss cs f bs (r0.below hb) (r1.below hb) (r3.below hb) hlen);clear hcs hdj HS hv0 hv1 hv2 hv3 hrv r0 r1 r3;go_wp2_with fail
   refine TM.out.mono ?_
   rintro e w2 ⟨b0,b1,b3,rfl,ho2,hb2⟩;have s2:=hb2.size;obtain ⟨hold,hfz,hst,hbt⟩:=gi rfl (ho.below hb2) hjn ho2 (Nat.le_refl _) s2;obtain ⟨o0,hc0⟩:=hold 0 (by omega);obtain ⟨o1,hc1⟩:=hold 1 (by omega);obtain ⟨o2,hc2⟩:=hold 2 (by omega);obtain ⟨o3,hc3⟩:=hold 3 (by omega);rw [Nat.add_zero] at hc0;rw [HS'.out] at hst;have HST:=ab hst;have HB:=ab ((((Below.andThen hb hb2).setCell (p:=⟨w.heap.size,j*4,none⟩) (Nat.le_refl _) (.slice b0 ss.length ss.length)).setCell (p:=⟨w.heap.size,j*4+1,none⟩) (Nat.le_refl _) (.slice b1 cs.length cs.length)).setCell (p:=⟨w.heap.size,j*4+2,none⟩) (Nat.le_refl _) (.bool f) |>.setCell (p:=⟨w.heap.size,j*4+3,none⟩) (Nat.le_refl _) (.slice b3 bs.length bs.length));clear ho ho2 hb2 hst hbt hb hold TM;go_wp2
   go_roundw
   case rel=>exact ⟨j+1,by omega,by go_num,by first|exact HST.out|(simp only [World.size_setCell];exact HST.out),HB.out⟩
   case measure=>simp [intOf];omega
 go_wp2
 go_ret
 have e:j=n:=by omega
 subst e;rw [Nat.sub_self,List.replicate_zero,List.append_nil,List.take_of_length_le (by omega)] at ho;exact ⟨rfl,ho,hb⟩
theorem fK (w:World) (E E' F F':TypeId) (a b:Option Addr) (la lb ca cb:Nat) (d:List ax) (h:(bf E F).Rd w [.slice a la ca] d) (h':(bf E' F').Rd w [.slice b lb cb] d) (hw:aE d<=2097152):
 Calls Tryz.prog 23 #[.slice a la ca,.slice b lb cb] w fun e w'=>e=.returned (.bool true)/\Below w.heap.size w w':=by
 obtain ⟨hl,hc,hm⟩:=ag h;obtain ⟨hl',hc',hm'⟩:=ag h';have hla:la<=2097152:=by unfold aE at hw;omega
 have hlen:la=lb:=by omega
 subst hlen;go_enter Tryz.func23,Tryz.ntmps23
 go_wp2
 go_loopw [5] (fun i wr=>∃j:Nat,j<=la/\i=.int .i64 j/\Below w.heap.size w wr) (fun i _=>la-(intOf i).toNat)
 case atStart=>exact ⟨0,Nat.zero_le _,rfl,Below.refl _ _⟩
 obtain ⟨j,hj,rfl,hb⟩:=hrel;by_cases hjn:j<la
 . rcases bS rfl h with h0'|⟨bx,ox,rfl,hbx,hcx⟩
   . omega
   rcases bS rfl h' with h0'|⟨bY,oy,rfl,hby,hcy⟩
   . omega
   have hdj:d[j]?=some (d[j]'(by omega)):=List.getElem?_eq_getElem (by omega);generalize d[j]'(by omega)=x at hdj;have hil:=Nat.le_trans (cE hdj) hw;obtain ⟨v0,v1,v2,v3,hv0,hv1,hv2,hv3,hrv⟩:=hcx j x hdj;obtain ⟨u0,u1,u2,u3,hu0,hu1,hu2,hu3,hru⟩:=hcy j x hdj;have rv:=hrv.below hb;have ru:=hru.below hb;obtain ⟨a0,c0,a1,c1,a3,c3,ss,cs,f,bs,rfl,rfl,rfl,rfl,rfl,_,_,_⟩:=dl hrv;obtain ⟨b0,d0,b1,d1,b3,d3,ss',cs',f',bs',hxx,rfl,rfl,rfl,rfl,_,_,_⟩:=dl hru;obtain ⟨rfl,rfl,rfl,rfl⟩:ss=ss'/\cs=cs'/\f=f'/\bs=bs':=by simpa using hxx
   have hx0:=(hb.cell (p:=⟨bx,ox+j*4,none⟩) hbx).trans hv0;have hx1:=(hb.cell (p:=⟨bx,ox+j*4+1,none⟩) hbx).trans hv1;have hx2:=(hb.cell (p:=⟨bx,ox+j*4+2,none⟩) hbx).trans hv2;have hx3:=(hb.cell (p:=⟨bx,ox+j*4+3,none⟩) hbx).trans hv3;have hy0:=(hb.cell (p:=⟨bY,oy+j*4,none⟩) hby).trans hu0;have hy1:=(hb.cell (p:=⟨bY,oy+j*4+1,none⟩) hby).trans hu1;have hy2:=(hb.cell (p:=⟨bY,oy+j*4+2,none⟩) hby).trans hu2;have hy3:=(hb.cell (p:=⟨bY,oy+j*4+3,none⟩) hby).trans hu3;have zx:bx<wr.heap.size:=Nat.lt_of_lt_of_le hbx hb.size;have zy:bY<wr.heap.size:=Nat.lt_of_lt_of_le hby hb.size;have i1:(0:Int)<=(j:Int):=by omega
   have i2:(j:Int)<(la:Int):=by omega
   have RV:=ab rv;have RU:=ab ru;clear hcx hcy hdj hv0 hv1 hv2 hv3 hu0 hu1 hu2 hu3 hrv hru hxx rv ru;go_wp2_with fail
   go_region_held3 (fun w'=>w'.cell? ⟨bx,ox+j*4,none⟩=some (.slice a0 ss.length c0)/\w'.cell? ⟨bx,ox+j*4+1,none⟩=some (.slice a1 cs.length c1)/\w'.cell? ⟨bx,ox+j*4+2,none⟩=some (.bool f)/\w'.cell? ⟨bx,ox+j*4+3,none⟩=some (.slice a3 bs.length c3)/\w'.cell? ⟨bY,oy+j*4,none⟩=some (.slice b0 ss.length d0)/\w'.cell? ⟨bY,oy+j*4+1,none⟩=some (.slice b1 cs.length d1)/\w'.cell? ⟨bY,oy+j*4+2,none⟩=some (.bool f)/\w'.cell? ⟨bY,oy+j*4+3,none⟩=some (.slice b3 bs.length d3))
    (first|(exact ⟨(hbC.cell (p:=⟨bx,ox+j*4,none⟩) zx).trans hx0,(hbC.cell (p:=⟨bx,ox+j*4+1,none⟩) zx).trans hx1,(hbC.cell (p:=⟨bx,ox+j*4+2,none⟩) zx).trans hx2,(hbC.cell (p:=⟨bx,ox+j*4+3,none⟩) zx).trans hx3,(hbC.cell (p:=⟨bY,oy+j*4,none⟩) zy).trans hy0,(hbC.cell (p:=⟨bY,oy+j*4+1,none⟩) zy).trans hy1,(hbC.cell (p:=⟨bY,oy+j*4+2,none⟩) zy).trans hy2,(hbC.cell (p:=⟨bY,oy+j*4+3,none⟩) zy).trans hy3⟩)|(exact ⟨hx0,hx1,hx2,hx3,hy0,hy1,hy2,hy3⟩)|go_keep)
    (first|(go_at_call 40;refine (iE _ E E' _ _ _ _ _ _ f ss cs bs (by exact RV.out.drew) (by exact RU.out.drew) hil).mono ?_;rintro e wC ⟨rfl,hbC0⟩;have hbC:Below wr.heap.size wr wC:=(Below.refl wr.heap.size wr).drew.trans hbC0))
   go_wp2
   go_roundw
   case rel=>exact ⟨j+1,by omega,by go_num,Below.andThen hb hbC⟩
   case measure=>simp [intOf];omega
 go_wp2
 go_ret
 exact ⟨rfl,hb⟩
theorem ep (w:World) (a:Option Addr) (len cap:Nat) (zs:List Int) (n:Int) (hz:zs.length=len) (hr:aQ .i64 w a zs) (hlen:len<=2097152):
 Calls Tryz.prog 122 #[.slice a len cap,.int .i64 n] w fun e w'=>∃r:Int,e=.returned (.int .i64 r)/\decide (0<=r)=inL zs n/\aG w w':=by
 go_enter Tryz.func122,Tryz.ntmps122
 go_wp2
 go_loop [8] (fun i=>∃j:Nat,j<=len/\i=.int .i64 j/\inL (zs.take j) n=false) (fun i=>len-(intOf i).toNat)
 case atStart=>exact ⟨0,Nat.zero_le _,rfl,rfl⟩
 obtain ⟨j,hj,rfl,ht⟩:=hrel;by_cases hlt:j<len
 . rcases hr.cases with h0|⟨b,off,rfl,hbl,hc⟩
   . omega
   have hc1:=hc j (by omega);have hd:=fR (zs:=zs) (n:=n) (j:=j) (by omega) rfl;generalize zs.getD j 0=x at hc1 hd;have HT:=ab ht;clear hc ht;by_cases hx:x=n
   . have HD:=ab (hd.1 hx)
     subst hx;clear hd;go_wp2
     go_ret
     exact ⟨_,rfl,by rw [HD.out];simp,aG.refl _⟩
   have HD:=ab (hd.2 hx HT.out);have hx':¬n=x:=fun e=>hx e.symm;clear hd;go_wp2
   go_round
   case rel=>exact ⟨j+1,by omega,by go_num,HD.out⟩
   case measure=>simp [intOf];omega
 go_wp2
 go_ret
 have e:j=len:=by omega
 subst e;rw [List.take_of_length_le (by omega)] at ht;exact ⟨_,rfl,by rw [ht];rfl,aG.refl _⟩
theorem cS (w:World) (a:Option Addr) (len cap:Nat) (zs:List Int) (n:Int) (hz:zs.length=len) (hr:aQ .i64 w a zs) (hlen:len<=2097152):
 Calls Tryz.prog 120 #[.slice a len cap,.int .i64 n] w fun e w'=>e=.returned (.bool (inL zs n))/\aG w w':=by
 go_enter Tryz.func120,Tryz.ntmps120
 go_wp2_with fail
 refine (ep _ _ _ _ zs n hz hr hlen).mono ?_
 rintro e w1 ⟨r,rfl,hr1,hs1⟩;go_wp2
 go_ret
 exact ⟨ac (by rw [←hr1]),hs1⟩
theorem eq (w:World) (E:TypeId) (a0 a1 a3:Option Addr) (n0 c0 n1 c1 n3 c3:Nat) (ss:List (List Int)) (cs:List (Int×List Int)) (f:Bool) (bs:List Int) (n:Int) (h0:bj.Rd w [.slice a0 n0 c0] ss) (h1:(aV E).Rd w [.slice a1 n1 c1] cs) (h3:aI.Rd w [.slice a3 n3 c3] bs) (hw:aF (ss,cs,f,bs)<=2097152):
 Calls Tryz.prog 119 #[.agg #[.slice a0 n0 c0,.slice a1 n1 c1,.bool f,.slice a3 n3 c3],.int .i64 n] w fun e w'=>∃a' l c',e=.returned (.tuple #[.slice a' l c',.bool (aK ss cs f bs n)])/\aI.Own w' w.heap.size w'.heap.size [.slice a' l c'] (aY ss cs f bs n)/\Below w.heap.size w w':=by
 obtain ⟨hl0,_,hm0⟩:=ag h0;obtain ⟨hl1,_,hm1⟩:=ag h1;obtain ⟨hl3,_,hm3⟩:=ag h3;have hw3:n3<=2097152:=by unfold aF at hw;simp only at hw;omega
 have hw0:aB ss<=2097152:=by unfold aF at hw;simp only at hw;omega
 have hw1:aA cs<=2097152:=by unfold aF at hw;simp only at hw;omega
 have hn0:n0<=2097152:=by unfold aB at hw0;omega
 have hn1:n1<=2097152:=by unfold aA at hw1;omega
 have hA:Below w.heap.size w (w.alloc (.cells #[.slice a0 n0 c0,.slice a1 n1 c1,.bool f,.slice a3 n3 c3] 66)):=(Below.refl _ _).alloc (Nat.le_refl _) _;have xm:=Box.new w 66 #[.slice a0 n0 c0,.slice a1 n1 c1,.bool f,.slice a3 n3 c3];have g0:=h0.below hA;have g1:=h1.below hA;have g3:=h3.below hA;obtain ⟨q0,q1,q2,q3⟩:=xm.cells4;have zm:=xm.lt;have fin:∀w1,Below w.heap.size w w1->aI.Own (w1.alloc (.cells #[] 3)) w.heap.size (w1.alloc (.cells #[] 3)).heap.size [.slice (some ⟨w1.heap.size,0,none⟩) 0 0] []/\Below w.heap.size w (w1.alloc (.cells #[] 3)):=by
  intro w1 hb;have hs:=hb.size;exact ⟨(aC (aT.lit .i64 3 w1 [] 0 #[] rfl rfl (by unfold maxLen;omega))).widen hs (Nat.le_refl _),hb.alloc hb.size _⟩
 by_cases hM:bT ss cs bs=true
 . by_cases hf:f=true
   . subst hf
     have hro:aK ss cs true bs n=false:=by unfold aK;rw [hM];rfl
     have hrd:aY ss cs true bs n=[]:=by unfold aY;rw [hro];rfl
     rw [hro,hrd];clear hro hrd;go_enter Tryz.func119,Tryz.ntmps119
     go_wp2_with fail
     generalize hW:w.alloc (.cells #[.slice a0 n0 c0,.slice a1 n1 c1,.bool true,.slice a3 n3 c3] 66)=W at hA g0 g1 g3 q0 q1 q2 q3 zm ⊢;clear hW xm;refine (aO _ E _ _ _ _ _ _ _ _ _ ss cs true bs g0 g1 g3 hw).mono ?_
     rintro e w1 ⟨rfl,b1⟩;have r0:=(b1.cell (p:=⟨w.heap.size,0,none⟩) zm).trans q0;have r1:=(b1.cell (p:=⟨w.heap.size,1,none⟩) zm).trans q1;have r2:=(b1.cell (p:=⟨w.heap.size,2,none⟩) zm).trans q2;have r3:=(b1.cell (p:=⟨w.heap.size,3,none⟩) zm).trans q3;have B1:=Below.andThen hA b1;have z1:=Nat.lt_of_lt_of_le zm b1.size;clear q0 q1 q2 q3;go_wp2
     go_ret2
     exact ⟨_,_,_,rfl,(fin _ B1).1,(fin _ B1).2⟩
   have hf:f=false:=by simpa using hf
   subst hf;by_cases hI:inB n 0 ((n0:Int)-1)=true
   . by_cases hB:inL bs n=true
     . have hro:aK ss cs false bs n=false:=by unfold aK;rw [hM,hl0,hI,hB];rfl
       have hrd:aY ss cs false bs n=[]:=by unfold aY;rw [hro];rfl
       rw [hro,hrd];clear hro hrd;go_enter Tryz.func119,Tryz.ntmps119
       go_wp2_with fail
       generalize hW:w.alloc (.cells #[.slice a0 n0 c0,.slice a1 n1 c1,.bool false,.slice a3 n3 c3] 66)=W at hA g0 g1 g3 q0 q1 q2 q3 zm ⊢;clear hW xm;refine (aO _ E _ _ _ _ _ _ _ _ _ ss cs false bs g0 g1 g3 hw).mono ?_
       rintro e w1 ⟨rfl,b1⟩;have r0:=(b1.cell (p:=⟨w.heap.size,0,none⟩) zm).trans q0;have r1:=(b1.cell (p:=⟨w.heap.size,1,none⟩) zm).trans q1;have r2:=(b1.cell (p:=⟨w.heap.size,2,none⟩) zm).trans q2;have r3:=(b1.cell (p:=⟨w.heap.size,3,none⟩) zm).trans q3;have B1:=Below.andThen hA b1;have z1:=Nat.lt_of_lt_of_le zm b1.size;clear q0 q1 q2 q3;go_wp2_with fail
       refine (br _ _ _ _ _ _ _ _).mono ?_
       rintro e w2 ⟨rfl,b2⟩;have t0:=(b2.cell (p:=⟨w.heap.size,0,none⟩) z1).trans r0;have t1:=(b2.cell (p:=⟨w.heap.size,1,none⟩) z1).trans r1;have t3:=(b2.cell (p:=⟨w.heap.size,3,none⟩) z1).trans r3;have B2:=Below.andThen B1 b2;have z2:=Nat.lt_of_lt_of_le z1 b2.size;have k3:=g3.below (Below.andThen b1 b2);clear r0 r1 r2 r3;go_wp2_with fail
       refine (cS _ _ _ _ bs _ hl3 (az k3).1 hw3).mono ?_
       rintro e w3 ⟨rfl,s3⟩;have B3:=Below.andSame B2 s3;go_wp2
       go_ret2
       exact ⟨_,_,_,rfl,(fin _ B3).1,(fin _ B3).2⟩
     have hB:inL bs n=false:=by simpa using hB
     have hro:aK ss cs false bs n=true:=by unfold aK;rw [hM,hl0,hI,hB];rfl
     have hrd:aY ss cs false bs n=(bL cs n).getD (dG ss n):=by unfold aY;rw [hro];rfl
     rw [hro,hrd];clear hro hrd;have hI':0<=n/\n<=(n0:Int)-1:=by unfold inB at hI;simpa using hI
     obtain ⟨k,rfl⟩:∃k:Nat,n=(k:Int):=⟨n.toNat,by omega⟩;have hk:k<n0:=by omega
     go_enter Tryz.func119,Tryz.ntmps119
     go_wp2_with fail
     generalize hW:w.alloc (.cells #[.slice a0 n0 c0,.slice a1 n1 c1,.bool false,.slice a3 n3 c3] 66)=W at hA g0 g1 g3 q0 q1 q2 q3 zm ⊢;clear hW xm;refine (aO _ E _ _ _ _ _ _ _ _ _ ss cs false bs g0 g1 g3 hw).mono ?_
     rintro e w1 ⟨rfl,b1⟩;have r0:=(b1.cell (p:=⟨w.heap.size,0,none⟩) zm).trans q0;have r1:=(b1.cell (p:=⟨w.heap.size,1,none⟩) zm).trans q1;have r2:=(b1.cell (p:=⟨w.heap.size,2,none⟩) zm).trans q2;have r3:=(b1.cell (p:=⟨w.heap.size,3,none⟩) zm).trans q3;have B1:=Below.andThen hA b1;have z1:=Nat.lt_of_lt_of_le zm b1.size;clear q0 q1 q2 q3;go_wp2_with fail
     refine (br _ _ _ _ _ _ _ _).mono ?_
     rintro e w2 ⟨rfl,b2⟩;have t0:=(b2.cell (p:=⟨w.heap.size,0,none⟩) z1).trans r0;have t1:=(b2.cell (p:=⟨w.heap.size,1,none⟩) z1).trans r1;have t3:=(b2.cell (p:=⟨w.heap.size,3,none⟩) z1).trans r3;have B2:=Below.andThen B1 b2;have z2:=Nat.lt_of_lt_of_le z1 b2.size;have k3:=g3.below (Below.andThen b1 b2);clear r0 r1 r2 r3;go_wp2_with fail
     refine (cS _ _ _ _ bs _ hl3 (az k3).1 hw3).mono ?_
     rintro e w3 ⟨rfl,s3⟩;have B3:=Below.andSame B2 s3;have m0:=(s3.cell _).trans t0;have m1:=(s3.cell _).trans t1;have b3:=Below.andSame (Below.andThen b1 b2) s3;have y1:=g1.below b3;rcases cT rfl g0 with h0'|⟨b,off,rfl,hbl,hcs⟩
     . omega
     have hdj:ss[k]?=some (ss[k]'(by omega)):=List.getElem?_eq_getElem (by omega);generalize ss[k]'(by omega)=x at hdj;have hil:=dr hdj;obtain ⟨v,hv,hrv⟩:=hcs k x hdj;obtain ⟨av,cv,rfl⟩:=aq hrv;have mv:=(b3.cell (p:=⟨b,off+k,none⟩) hbl).trans hv;have hrx:=hrv.below b3;have hgx:dG ss (k:Int)=x:=by unfold dG;rw [Int.toNat_natCast,List.getD_eq_getElem?_getD,hdj];rfl
     have HGX:=ab hgx;have HX:=ab hrx;have HB3:=ab B3;have i1:(0:Int)<=(k:Int):=by omega
     have i2:(k:Int)<(n0:Int):=by omega
     have zb3:b<w3.heap.size:=Nat.lt_of_lt_of_le hbl b3.size;have z3:w.heap.size<w3.heap.size:=Nat.lt_of_lt_of_le zm b3.size;have hwr:=gE hM;have hk20:=iJ hM;clear hcs hdj hv hrv hgx hrx B3 b3 t0 t1 t3 g0 g1 g3 k3 B1 B2 b1 b2 s3 hA fin hB hI hI' hM;go_wp2_with fail
     refine (gD _ E _ _ _ cs y1 hn1 hwr).mono ?_
     rintro e w4 ⟨rfl,b4,D,hown,hL⟩;have n0':=(b4.cell (p:=⟨w.heap.size,0,none⟩) z3).trans m0;have nv:=(b4.cell (p:=⟨b,off+k,none⟩) zb3).trans mv;have HB4:=ab (Below.andThen HB3.out b4);have HX4:=ab (HX.out.below b4);have HOW:=ab hown;have HL:=ab hL;have HKEY:=ab (iZ (q:=(k:Int)) (by omega) (by omega));have B4L:=ab b4;clear m0 m1 mv b4 hown hL y1 HB3 HX;cases hlw:bL cs (k:Int) with
     | none=>
      have HZ:Hid ((bL cs (k:Int)).getD (dG ss (k:Int))=x):=by unfold Hid;rw [hlw,HGX.out];rfl
      have HLW:=ab hlw;clear hlw;have hX:Below w4.heap.size w4 (w4.alloc (.cells #[.int .i64 0,.slice none 0 0] 98)):=(Below.refl _ _).alloc (Nat.le_refl _) _;have z4:=HB4.out.size;have z34:=B4L.out.size;have p0:=(hX.cell (p:=⟨w.heap.size,0,none⟩) (by simp only;omega)).trans n0';have pv:=(hX.cell (p:=⟨b,off+k,none⟩) (by simp only;omega)).trans nv;have HX5:=ab (HX4.out.below hX);have HB5:=ab (Below.andThen HB4.out hX);clear hX;go_wp2_with (at_lookup;refine io rfl _ _ rfl w3.heap.size n1 D w3 cs (k:Int) rfl HOW.out rfl HKEY.out HL.out HLW.out ?_)
      refine (db _ _ _ _ x HX5.out (by omega)).mono ?_
      rintro e w5 ⟨a5,c5,rfl,o5,b5⟩;have hsz:=HB5.out.size;go_wp2
      go_ret2
      exact ⟨_,_,_,rfl,by rw [HZ.out];exact o5.widen hsz (Nat.le_refl _),Below.andThen HB5.out b5⟩
     | some zs=>
      have HZ:Hid ((bL cs (k:Int)).getD (dG ss (k:Int))=zs):=by unfold Hid;rw [hlw];rfl
      have HLW:=ab hlw;have hzl:zs.length<=2097152:=iK hw1 hlw;clear hlw;go_wp2_with (at_lookup;refine im rfl _ _ rfl w3.heap.size n1 D w3 cs (k:Int) zs rfl HOW.out rfl HKEY.out HL.out HLW.out ?_;intro a9 c9 h9;have H9:=ab (h9.below B4L.out);clear h9)
      have hX:Below w4.heap.size w4 (w4.alloc (.cells #[.int .i64 (k:Int),.slice a9 zs.length c9] 98)):=(Below.refl _ _).alloc (Nat.le_refl _) _;have HB5:=ab (Below.andThen HB4.out hX);refine (db _ _ _ _ zs (H9.out.below hX) (by omega)).mono ?_
      rintro e w5 ⟨a5,c5,rfl,o5,b5⟩;have hsz:=HB5.out.size;go_wp2
      go_ret2
      exact ⟨_,_,_,rfl,by rw [HZ.out];exact o5.widen hsz (Nat.le_refl _),Below.andThen HB5.out b5⟩
   have hI:inB n 0 ((n0:Int)-1)=false:=by simpa using hI
   have hro:aK ss cs false bs n=false:=by unfold aK;rw [hM,hl0,hI];rfl
   have hrd:aY ss cs false bs n=[]:=by unfold aY;rw [hro];rfl
   rw [hro,hrd];clear hro hrd;go_enter Tryz.func119,Tryz.ntmps119
   go_wp2_with fail
   generalize hW:w.alloc (.cells #[.slice a0 n0 c0,.slice a1 n1 c1,.bool false,.slice a3 n3 c3] 66)=W at hA g0 g1 g3 q0 q1 q2 q3 zm ⊢;clear hW xm;refine (aO _ E _ _ _ _ _ _ _ _ _ ss cs false bs g0 g1 g3 hw).mono ?_
   rintro e w1 ⟨rfl,b1⟩;have r0:=(b1.cell (p:=⟨w.heap.size,0,none⟩) zm).trans q0;have r1:=(b1.cell (p:=⟨w.heap.size,1,none⟩) zm).trans q1;have r2:=(b1.cell (p:=⟨w.heap.size,2,none⟩) zm).trans q2;have r3:=(b1.cell (p:=⟨w.heap.size,3,none⟩) zm).trans q3;have B1:=Below.andThen hA b1;have z1:=Nat.lt_of_lt_of_le zm b1.size;clear q0 q1 q2 q3;go_wp2_with fail
   refine (br _ _ _ _ _ _ _ _).mono ?_
   rintro e w2 ⟨rfl,b2⟩;have t0:=(b2.cell (p:=⟨w.heap.size,0,none⟩) z1).trans r0;have t1:=(b2.cell (p:=⟨w.heap.size,1,none⟩) z1).trans r1;have t3:=(b2.cell (p:=⟨w.heap.size,3,none⟩) z1).trans r3;have B2:=Below.andThen B1 b2;have z2:=Nat.lt_of_lt_of_le z1 b2.size;have k3:=g3.below (Below.andThen b1 b2);clear r0 r1 r2 r3;go_wp2
   go_ret2
   exact ⟨_,_,_,rfl,(fin _ B2).1,(fin _ B2).2⟩
 have hM:bT ss cs bs=false:=by simpa using hM
 have hro:aK ss cs f bs n=false:=by unfold aK;rw [hM];rfl
 have hrd:aY ss cs f bs n=[]:=by unfold aY;rw [hro];rfl
 rw [hro,hrd];clear hro hrd;go_enter Tryz.func119,Tryz.ntmps119
 go_wp2_with fail
 generalize hW:w.alloc (.cells #[.slice a0 n0 c0,.slice a1 n1 c1,.bool f,.slice a3 n3 c3] 66)=W at hA g0 g1 g3 q0 q1 q2 q3 zm ⊢;clear hW xm;refine (aO _ E _ _ _ _ _ _ _ _ _ ss cs f bs g0 g1 g3 hw).mono ?_
 rintro e w1 ⟨rfl,b1⟩;have r0:=(b1.cell (p:=⟨w.heap.size,0,none⟩) zm).trans q0;have r1:=(b1.cell (p:=⟨w.heap.size,1,none⟩) zm).trans q1;have r2:=(b1.cell (p:=⟨w.heap.size,2,none⟩) zm).trans q2;have r3:=(b1.cell (p:=⟨w.heap.size,3,none⟩) zm).trans q3;have B1:=Below.andThen hA b1;have z1:=Nat.lt_of_lt_of_le zm b1.size;clear q0 q1 q2 q3;go_wp2
 go_ret2
 exact ⟨_,_,_,rfl,(fin _ B1).1,(fin _ B1).2⟩
end Go.Proofs.YtfimpohbpccjaaaGreat

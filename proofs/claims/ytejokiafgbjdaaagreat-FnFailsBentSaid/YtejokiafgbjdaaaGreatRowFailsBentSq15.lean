/-
 The walk of sameMems of package laws: disks that read alike. Condition: they weigh at most 2097152.
-/
import Derived.Test.YtejokiafgbjdaaaGreatRowFailsBentSq12
import Derived.Test.YtejokiafgbjdaaaGreatRowFailsBentSq10
import Derived.Deep.RegionHeld3

set_option maxRecDepth 100000
set_option maxHeartbeats 8000000
set_option linter.unusedSimpArgs false

namespace Go.Proofs.YtejokiafgbjdaaaGreat
open Go.RowKit

theorem mY (w:World) (E E' F F':TypeId) (a b:Option Addr) (la lb ca cb:Nat) (d:List ai) (h:(bk E F).Rd w [.slice a la ca] d) (h':(bk E' F').Rd w [.slice b lb cb] d) (hw:aK d<=2097152):
 Calls Tryz.prog 71 #[.slice a la ca,.slice b lb cb] w fun e w'=>e=.returned (.bool true)/\Below w.heap.size w w':=by
 obtain ⟨hl,hc,hm⟩:=ae h;obtain ⟨hl',hc',hm'⟩:=ae h';have hla:la<=2097152:=by unfold aK at hw;omega
 have hlen:la=lb:=by omega
 subst hlen;go_enter Tryz.func71,Tryz.ntmps71
 go_wp2
 go_loopw [5] (fun i wr=>∃j:Nat,j<=la/\i=.int .i64 j/\Below w.heap.size w wr) (fun i _=>la-(intOf i).toNat)
 case atStart=>exact ⟨0,Nat.zero_le _,rfl,Below.refl _ _⟩
 obtain ⟨j,hj,rfl,hb⟩:=hrel;by_cases hjn:j<la
 . rcases cF rfl h with h0'|⟨bx,ox,rfl,hbx,hcx⟩
   . omega
   rcases cF rfl h' with h0'|⟨bY,oy,rfl,hby,hcy⟩
   . omega
   have hdj:d[j]?=some (d[j]'(by omega)):=List.getElem?_eq_getElem (by omega);generalize d[j]'(by omega)=x at hdj;have hil:=Nat.le_trans (cD hdj) hw;obtain ⟨v0,v1,v2,v3,hv0,hv1,hv2,hv3,hrv⟩:=hcx j x hdj;obtain ⟨u0,u1,u2,u3,hu0,hu1,hu2,hu3,hru⟩:=hcy j x hdj;obtain ⟨a0,c0,a1,c1,a3,c3,ss,cs,f,bs,rfl,rfl,rfl,rfl,rfl,p0,p1,p3⟩:=dP hrv;obtain ⟨b0,d0,b1,d1,b3,d3,ss',cs',f',bs',hxx,rfl,rfl,rfl,rfl,s0,s1,s3⟩:=dP hru;obtain ⟨rfl,rfl,rfl,rfl⟩:ss=ss'/\cs=cs'/\f=f'/\bs=bs':=by simpa using hxx
   have hx0:=(hb.cell (p:=⟨bx,ox+j*4,none⟩) hbx).trans hv0;have hx1:=(hb.cell (p:=⟨bx,ox+j*4+1,none⟩) hbx).trans hv1;have hx2:=(hb.cell (p:=⟨bx,ox+j*4+2,none⟩) hbx).trans hv2;have hx3:=(hb.cell (p:=⟨bx,ox+j*4+3,none⟩) hbx).trans hv3;have hy0:=(hb.cell (p:=⟨bY,oy+j*4,none⟩) hby).trans hu0;have hy1:=(hb.cell (p:=⟨bY,oy+j*4+1,none⟩) hby).trans hu1;have hy2:=(hb.cell (p:=⟨bY,oy+j*4+2,none⟩) hby).trans hu2;have hy3:=(hb.cell (p:=⟨bY,oy+j*4+3,none⟩) hby).trans hu3;have zx:bx<wr.heap.size:=Nat.lt_of_lt_of_le hbx hb.size;have zy:bY<wr.heap.size:=Nat.lt_of_lt_of_le hby hb.size;have i1:(0:Int)<=(j:Int):=by omega
   have i2:(j:Int)<(la:Int):=by omega
   have P0:=aa (p0.below hb);have S0:=aa (s0.below hb);have P1:=aa (p1.below hb);have S1:=aa (s1.below hb);have P3:=aa (p3.below hb);have S3:=aa (s3.below hb);clear hcx hcy hdj hv0 hv1 hv2 hv3 hu0 hu1 hu2 hu3 hrv hru hxx p0 p1 p3 s0 s1 s3;go_wp2_with fail
   go_region_held3 (fun w'=>w'.cell? ⟨bx,ox+j*4,none⟩=some (.slice a0 ss.length c0)/\w'.cell? ⟨bx,ox+j*4+1,none⟩=some (.slice a1 cs.length c1)/\w'.cell? ⟨bx,ox+j*4+2,none⟩=some (.bool f)/\w'.cell? ⟨bx,ox+j*4+3,none⟩=some (.slice a3 bs.length c3)/\w'.cell? ⟨bY,oy+j*4,none⟩=some (.slice b0 ss.length d0)/\w'.cell? ⟨bY,oy+j*4+1,none⟩=some (.slice b1 cs.length d1)/\w'.cell? ⟨bY,oy+j*4+2,none⟩=some (.bool f)/\w'.cell? ⟨bY,oy+j*4+3,none⟩=some (.slice b3 bs.length d3))
    (first|(exact ⟨(hbC.cell (p:=⟨bx,ox+j*4,none⟩) zx).trans hx0,(hbC.cell (p:=⟨bx,ox+j*4+1,none⟩) zx).trans hx1,(hbC.cell (p:=⟨bx,ox+j*4+2,none⟩) zx).trans hx2,(hbC.cell (p:=⟨bx,ox+j*4+3,none⟩) zx).trans hx3,(hbC.cell (p:=⟨bY,oy+j*4,none⟩) zy).trans hy0,(hbC.cell (p:=⟨bY,oy+j*4+1,none⟩) zy).trans hy1,(hbC.cell (p:=⟨bY,oy+j*4+2,none⟩) zy).trans hy2,(hbC.cell (p:=⟨bY,oy+j*4+3,none⟩) zy).trans hy3⟩)|(exact ⟨hx0,hx1,hx2,hx3,hy0,hy1,hy2,hy3⟩)|go_keep)
    (first|(go_at_call 126;refine (oT _ E E' _ _ _ _ _ _ _ _ _ _ _ _ _ _ _ _ _ _ ss cs f bs (by exact P0.out.drew) (by exact P1.out.drew) (by exact P3.out.drew) (by exact S0.out.drew) (by exact S1.out.drew) (by exact S3.out.drew) hil).mono ?_;rintro e wC ⟨rfl,hbC0⟩;have hbC:Below wr.heap.size wr wC:=(Below.refl wr.heap.size wr).drew.trans hbC0))
   go_wp2
   go_roundw
   case rel=>exact ⟨j+1,by omega,by go_num,Below.andThen hb hbC⟩
   case measure=>simp [intOf];omega
 go_wp2
 go_ret
 exact ⟨rfl,hb⟩
end Go.Proofs.YtejokiafgbjdaaaGreat

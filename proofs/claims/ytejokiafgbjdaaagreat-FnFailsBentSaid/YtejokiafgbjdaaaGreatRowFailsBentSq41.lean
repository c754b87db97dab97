/-
 The program's SpoilAt walked. Condition: the array weighs at most 2097152.
-/
import Derived.Test.YtejokiafgbjdaaaGreatRowFailsBentSq39
import Derived.Test.YtejokiafgbjdaaaGreatRowFailsBentSq34
import Derived.Test.YtejokiafgbjdaaaGreatRowFailsBentSq38
import Derived.Test.YtejokiafgbjdaaaGreatRowFailsBentSq30
import Derived.Test.YtejokiafgbjdaaaGreatRowFailsBentSq19
import Derived.Test.YtejokiafgbjdaaaGreatRowFailsBentSq24
import Derived.Test.YtejokiafgbjdaaaGreatRowFailsBentSq28
import Derived.Test.YtejokiafgbjdaaaGreatRowFailsBentSq3

set_option maxRecDepth 100000
set_option maxHeartbeats 8000000
set_option linter.unusedSimpArgs false

namespace Go.Proofs.YtejokiafgbjdaaaGreat
open Go.RowKit

theorem ke (w:World) (B p m:Nat) (hp:Box w p 63 #[.pointer (some ⟨B,0,none⟩)]):Calls Tryz.prog 228 #[.int .i64 (m:Int),.pointer (some ⟨p,0,none⟩)] w fun e w'=>∃v,e=.returned v/\(mT B).Own w' w.heap.size w'.heap.size [v] (jM m)/\Below w.heap.size w w':=by
 have c0:w.cell? ⟨p,0,none⟩=some (.pointer (some ⟨B,0,none⟩)):=hp.cell 0;go_enter Tryz.func228,Tryz.ntmps228
 go_wp2_with fail
 refine (pV _ B m).mono ?_
 rintro e w1 ⟨v,rfl,ov,b1⟩;have OV:=aa ov;have B1:=aa b1;clear ov b1;go_wp2
 go_ret
 exact ⟨_,rfl,OV.out,B1.out⟩
theorem kX (w:World) (B:Nat) (x:al) (ms:List ai) (ds:List (Int×List Int)) (fm fd:List Nat) (h:aD w B x ms ds fm fd) (hl:ms.length<=2097152):Calls Tryz.prog 188 #[.pointer (some ⟨B,0,none⟩)] w fun e w'=>∃bo co,e=.returned (.slice bo (dL jM ms ms.length).length co)/\(sG B).Own w' w.heap.size w'.heap.size [.slice bo (dL jM ms ms.length).length co] (dL jM ms ms.length)/\Below w.heap.size w w':=by
 have hmf:∀(fn:Fn) (first cap:Array Value) (w:World),(Instr.makeFunc fn first cap).run Tryz.prog w=.ok (.func fn first cap) w:=fun _ _ _ _=>rfl;have bA:=ah w (.cells #[.pointer (some ⟨B,0,none⟩)] 63);have bx:=Box.new w 63 #[.pointer (some ⟨B,0,none⟩)];have HA:=aa (h.alloc (.cells #[.pointer (some ⟨B,0,none⟩)] 63));have hlt:=bx.lt;clear h;go_enter Tryz.func188,Tryz.ntmps188
 go_wp2_with fail
 refine (nP _ B x ms ds fm fd HA.out hl jM 228 #[.pointer (some ⟨w.heap.size,0,none⟩)] (fun m=>gV Tryz.func228 (by kernel_rfl) (by kernel_rfl) _) (fun m w' hm hb=>?_)).mono ?_
 . exact ke w' B _ m (bx.below hb hlt)
 rintro e w1 ⟨bo,co,rfl,oo,b1⟩;have OO:=aa (oo.widen (lo':=w.heap.size) (hi':=w1.heap.size) (by simp) (Nat.le_refl _));have B1:=aa (Below.andThen bA b1);clear oo b1 bA bx;go_wp2
 go_ret
 exact ⟨_,_,rfl,OO.out,B1.out⟩
theorem qT {w:World} {B:Nat} {x:al} {ms:List ai} {ds:List (Int×List Int)} {fm fd:List Nat} (h:aD w B x ms ds fm fd):aD (w.setCell ⟨B,8,none⟩ (.int .i64 (x.gen+1))) B {x with gen:=x.gen+1} ms ds fm fd:=by
 obtain ⟨bm,bd,cm,cd,X,hm,hd,hr,r1,r2⟩:=h;exact ⟨bm,bd,cm,cd,X.set 8 _,hm.setCell r1 _,hd.setCell r2 _,hr,r1,r2⟩
def qU (x:al) (n:Nat):Prop:=∀i:Nat,i<n->er (gk x i)=true
theorem uC {x:al} {ms:List ai} {ds:List (Int×List Int)} (h:aX x ms ds=true) (hg:x.gen<60000) (t:Int) (ht:t=x.tail∨t=x.seq):qU {x with gen:=x.gen+1,tail:=t} ms.length:=by
 intro i hi;have hl:=ia h;unfold aX cS dM at h;simp only [Bool.and_eq_true,az,aG,decide_eq_true_eq,Bool.or_eq_true,Bool.not_eq_true',decide_eq_false_iff_not] at h
 obtain ⟨hgeo,hid,_,_,⟨hlo,hbu,hlb⟩,htl,hsq,_,hgen,_⟩:=h;rw [et];unfold gk;dsimp only
 refine ⟨hgeo,?_,⟨by omega,by omega⟩,hid,⟨by omega,by omega⟩,⟨by rcases ht with rfl|rfl<;>omega,by rcases ht with rfl|rfl<;>omega⟩⟩
 by_cases e:x.lost=-1
 . exact .inl ⟨e,hlb.resolve_left (fun h=>h e)⟩
 exact .inr ⟨e,by omega,hlo.2,hbu.1,hbu.2⟩
theorem tW {x:al} {ms:List ai} (hM:bJ ms) (hf:x.uI<=1000) (hu:qU {x with gen:=x.gen+1} ms.length):dC ({x with gen:=x.gen+1},ms) (dL jM ms ms.length)=cX ({x with gen:=x.gen+1},ms) ms.length:=
 pn (q:=({x with gen:=x.gen+1},ms)) hM hf hu ms.length (Nat.le_refl _)
theorem mH {q:al×List ai} (h:q.1.down=true):∀j,bw q j=q
 | 0=>rfl
 | j+1=>by rw [hX,mH h j,pj _ _ h]
theorem sH (w:World) (B:Nat) (x:al) (ms:List ai) (ds:List (Int×List Int)) (fm fd:List Nat) (h:aD w B x ms ds fm fd) (hf:x.uI<=1000) (hdn:x.down=false) (hM:bJ ms) (hl:ms.length<=2097152) (hg0:0<=x.gen) (hg:x.gen<60000) (hu:qU {x with gen:=x.gen+1} ms.length):Calls Tryz.prog 134 #[.pointer (some ⟨B,0,none⟩)] w (Did w B fm ds fd (cP (x,ms))):=by
 have k8:w.cell? ⟨B,8,none⟩=some (.int .i64 x.gen):=by
  obtain ⟨bm,bd,cm,cd,X,_⟩:=h;unfold aC at X;exact X.cells13.2.2.2.2.2.2.2.2.1
 have fz:∀j,w.frozen? ⟨B,j,none⟩=false:=by
  obtain ⟨bm,bd,cm,cd,X,_⟩:=h;exact X.frozen
 have hw1:IntKind.i64.wrap (x.gen+1)=x.gen+1:=IntWalk.i64_in _ (by omega);have HA:=aa (qT h);have MS:=aa (aI.set (B:=B) (j:=8) (fm:=fm) (w:=w) (.int .i64 (x.gen+1)));have HR:=aa (tW hM hf hu);have HF:Hid (x.uI<=1000/\x.down=false):=⟨hf,hdn⟩;have HMK:Hid (cP (x,ms)=bw (cX ({x with gen:=x.gen+1},ms) ms.length) ms.length):=rfl;have HK:=aa (ei (q:=({x with gen:=x.gen+1},ms)) hM hf ms.length);have hlB:=HA.out.lt;have hlm:=HA.out.ltm.1;clear h hf hdn hg0 hg hu;go_enter Tryz.func134,Tryz.ntmps134
 go_wp2_with fail
 clear k8 fz;generalize w.setCell ⟨B,8,none⟩ (.int .i64 (x.gen+1))=w0 at HA MS hlB hlm ⊢;refine (kX _ B {x with gen:=x.gen+1} ms ds fm fd HA.out hl).mono ?_
 rintro e w1 ⟨bo,co,rfl,oo,b1⟩;obtain ⟨fo,mo,ro⟩:=oo.mine;have HP:=aa (kO w1 B {x with gen:=x.gen+1} ms ds fm fd (HA.out.below b1) HF.out.1 HF.out.2 hM bo co (dL jM ms ms.length) fo mo (fun b hb=>⟨fun e=>by have:=(ro b hb).1;omega,fun hm=>by have h1:=(ro b hb).1;have h2:=hlm b hm;omega⟩) (fun o ho=>by
  obtain ⟨i,hi,hfl,rfl⟩:=pk ho;exact ⟨hi,hfl⟩))
 have MB:=aa (MS.out.below b1);clear oo mo ro b1 hlm HA MS;go_wp2_with fail
 refine HP.out.mono ?_
 rintro e w2 hd;rw [HR.out] at hd;obtain ⟨he,fm2,hA2,hMv2⟩:=hd;have MV2:=aa (MB.out.trans hMv2);obtain ⟨kM,kS,kL⟩:=HK.out;clear hMv2 HR HP HK MB;generalize cX ({x with gen:=x.gen+1},ms) ms.length=st at he hA2 HMK kM kS kL;obtain ⟨y,ns⟩:=st;dsimp only at he hA2 kM kS kL
 have hfy:=kS.2.2.2.2.2.2.2.2.2.1;unfold dD at he;cases hst:y.down
 . rw [if_neg (by simp [hst])] at he
   subst he;have HS:=aa (mV w2 B y ns ds fm2 fd hA2 hfy hst kM (by omega));rw [kL] at HS;clear hst hA2;go_wp2_with fail
   refine HS.out.mono ?_
   rintro e w3 ⟨he,fm3,hA3,hMv3⟩;have HD:Hid (Did w B fm ds fd (cP (x,ms)) e w3):=by
    unfold Hid;rw [HMK.out];exact ⟨he,fm3,hA3,MV2.out.trans hMv3⟩
   unfold dD at he;clear hA3 hMv3;cases hst:(bw (y,ns) ms.length).1.down
   . rw [if_neg (by simp [hst])] at he
     subst he;clear hst;go_wp2
     refine bodyPost_end (v:=.tuple #[]) (results_none rfl _ _ _) rfl ?_
     exact HD.out
   rw [if_pos hst] at he;subst he;clear hst;go_wp2
   exact ⟨rfl,HD.out⟩
 rw [if_pos hst] at he;subst he;have HD:Hid (Did w B fm ds fd (cP (x,ms)) (.panicked nN) w2):=by
  unfold Hid;rw [HMK.out,mH hst];exact ⟨dD.gone hst,fm2,hA2,MV2.out⟩
 clear hst hA2;go_wp2
 exact ⟨rfl,HD.out⟩
theorem mX (w:World) (B:Nat) (x:al) (ms:List ai) (ds:List (Int×List Int)) (fm fd:List Nat) (h:aD w B x ms ds fm fd) (ha:aX x ms ds=true) (hdn:x.down=false) (hg:x.gen<60000):Calls Tryz.prog 134 #[.pointer (some ⟨B,0,none⟩)] w (Did w B fm ds fd (cP (x,ms))):=by
 obtain ⟨fc,mk,gc0,gc1⟩:=eL ha;have hl:=ia ha;exact sH w B x ms ds fm fd h fc hdn mk (by omega) gc0 hg (uC ha hg x.tail (.inl rfl))
theorem oO (w:World) (E F G:TypeId) (x:al) (am ad:Option Addr) (nm cm nd cd:Nat) (ms:List ai) (ds:List (Int×List Int)) (h0:(bk E F).Rd w [.slice am nm cm] ms) (h1:(aU G).Rd w [.slice ad nd cd] ds) (hw:aM ms ds<=2097152):
 Calls Tryz.prog 78 #[.agg #[.int .i64 x.id,.int .i64 x.n,.int .i64 x.s,.slice am nm cm,.int .i64 x.lost,.int .i64 x.uG,.int .i64 x.seq,.int .i64 x.tail,.int .i64 x.gen,.slice ad nd cd,.int .i64 x.uI,.bool x.down,.bool x.uH]] w fun e w'=>iC w w' e (jp x ms ds) ds:=by
 obtain ⟨rfl,_⟩:=ae h0;obtain ⟨rfl,_⟩:=ae h1;have hA:=(ah w (.cells #[.int .i64 x.id,.int .i64 x.n,.int .i64 x.s,.slice am ms.length cm,.int .i64 x.lost,.int .i64 x.uG,.int .i64 x.seq,.int .i64 x.tail,.int .i64 x.gen,.slice ad ds.length cd,.int .i64 x.uI,.bool x.down,.bool x.uH] 29)).alloc (by simp) (.cells #[.int .i64 0,.int .i64 0,.int .i64 0,.slice none 0 0,.int .i64 0,.int .i64 0,.int .i64 0,.int .i64 0,.int .i64 0,.slice none 0 0,.int .i64 0,.bool false,.bool false] 29);have X0:Box ((w.alloc (.cells #[.int .i64 x.id,.int .i64 x.n,.int .i64 x.s,.slice am ms.length cm,.int .i64 x.lost,.int .i64 x.uG,.int .i64 x.seq,.int .i64 x.tail,.int .i64 x.gen,.slice ad ds.length cd,.int .i64 x.uI,.bool x.down,.bool x.uH] 29)).alloc (.cells #[.int .i64 0,.int .i64 0,.int .i64 0,.slice none 0 0,.int .i64 0,.int .i64 0,.int .i64 0,.int .i64 0,.int .i64 0,.slice none 0 0,.int .i64 0,.bool false,.bool false] 29)) w.heap.size 29 #[.int .i64 x.id,.int .i64 x.n,.int .i64 x.s,.slice am ms.length cm,.int .i64 x.lost,.int .i64 x.uG,.int .i64 x.seq,.int .i64 x.tail,.int .i64 x.gen,.slice ad ds.length cd,.int .i64 x.uI,.bool x.down,.bool x.uH]:=(Box.new w _ _).alloc _;have R0:=Box.new (w.alloc (.cells #[.int .i64 x.id,.int .i64 x.n,.int .i64 x.s,.slice am ms.length cm,.int .i64 x.lost,.int .i64 x.uG,.int .i64 x.seq,.int .i64 x.tail,.int .i64 x.gen,.slice ad ds.length cd,.int .i64 x.uI,.bool x.down,.bool x.uH] 29)) 29 #[.int .i64 0,.int .i64 0,.int .i64 0,.slice none 0 0,.int .i64 0,.int .i64 0,.int .i64 0,.int .i64 0,.int .i64 0,.slice none 0 0,.int .i64 0,.bool false,.bool false];rw [World.size_alloc] at R0;have zX:=X0.lt;have zR:=R0.lt;have r0:=h0.below hA;have r1:=h1.below hA;have hzW:((w.alloc (.cells #[.int .i64 x.id,.int .i64 x.n,.int .i64 x.s,.slice am ms.length cm,.int .i64 x.lost,.int .i64 x.uG,.int .i64 x.seq,.int .i64 x.tail,.int .i64 x.gen,.slice ad ds.length cd,.int .i64 x.uI,.bool x.down,.bool x.uH] 29)).alloc (.cells #[.int .i64 0,.int .i64 0,.int .i64 0,.slice none 0 0,.int .i64 0,.int .i64 0,.int .i64 0,.int .i64 0,.int .i64 0,.slice none 0 0,.int .i64 0,.bool false,.bool false] 29)).heap.size=w.heap.size+1+1:=by simp
 obtain ⟨k0,k1,k2,k3,k4,k5,k6,k7,k8,k9,k10,k11,k12⟩:=X0.cells13;go_enter Tryz.func78,Tryz.ntmps78
 go_wp2_with fail
 generalize (w.alloc (.cells #[.int .i64 x.id,.int .i64 x.n,.int .i64 x.s,.slice am ms.length cm,.int .i64 x.lost,.int .i64 x.uG,.int .i64 x.seq,.int .i64 x.tail,.int .i64 x.gen,.slice ad ds.length cd,.int .i64 x.uI,.bool x.down,.bool x.uH] 29)).alloc (.cells #[.int .i64 0,.int .i64 0,.int .i64 0,.slice none 0 0,.int .i64 0,.int .i64 0,.int .i64 0,.int .i64 0,.int .i64 0,.slice none 0 0,.int .i64 0,.bool false,.bool false] 29)=W at hA X0 R0 zX zR r0 r1 hzW k0 k1 k2 k3 k4 k5 k6 k7 k8 k9 k10 k11 k12 ⊢;obtain ⟨BR,hBR⟩:∃BR,w.heap.size+1=BR:=⟨_,rfl⟩;rw [hBR] at R0 zR hzW ⊢;have q1:w.heap.size+1<=BR/\BR<=w.heap.size+1:=by omega
 clear hBR;refine (eR _ E F G x _ _ _ _ _ _ ms ds r0 r1 hw).mono ?_
 rintro e w1 ⟨rfl,b1⟩;have X1:=X0.below b1 zX;have R1:=R0.below b1 zR;have p0:=r0.below b1;have p1:=r1.below b1;have B1:=Below.andThen hA b1;have z1:=b1.size;clear k0 k1 k2 k3 k4 k5 k6 k7 k8 k9 k10 k11 k12 X0 R0 r0 r1 b1 hA;obtain ⟨k0,k1,k2,k3,k4,k5,k6,k7,k8,k9,k10,k11,k12⟩:=X1.cells13;have HD:Hid (jp x ms ds=if (aX x ms ds&&!x.down&&decide (x.gen<60000))=true then cP (x,ms) else (x,ms)):=rfl;cases ha:aX x ms ds
 . have HV:Hid (jp x ms ds=(x,ms)):=by unfold Hid;rw [HD.out,if_neg (by simp [ha])]
   go_wp2_with fail
   refine (en _ E F G x _ _ _ _ _ _ ms ds p0 p1 hw).mono ?_
   rintro e w2 ⟨vm,cvm,vd,cvd,m,rfl,om,od,zm,zm2,b2⟩;have R2:=R1.below b2 (by omega);have B2:=Below.andThen B1 b2;obtain ⟨fm,mm,rm⟩:=om.mine;obtain ⟨fd,md,rd⟩:=od.mine;have hr2:∀b∈fm,b∉fd:=fun b hb hb'=>by have h1:=rm b hb;have h2:=rd b hb';omega
   clear X1 R1 B1 p0 p1 b2 om od k0 k1 k2 k3 k4 k5 k6 k7 k8 k9 k10 k11 k12;obtain ⟨s0,s1,s2,s3,s4,s5,s6,s7,s8,s9,s10,s11,s12⟩:=R2.cells13;have fz:=R2.frozen;have HO:=aa (bR (y:=x) (ns:=ms) (e:=.returned (.agg (aC x _ _))) (lo:=BR+1) B2 R2 rfl mm md hr2 (fun b hb=>by have:=rm b hb;omega) (fun b hb=>by have:=rd b hb;omega) (by omega) (by omega));unfold aC at HO;simp only [bM] at HO
   clear B2 R2 mm md;go_wp2
   refine bodyPost_ret (v:=.agg #[.int .i64 x.id,.int .i64 x.n,.int .i64 x.s,.slice vm ms.length cvm,.int .i64 x.lost,.int .i64 x.uG,.int .i64 x.seq,.int .i64 x.tail,.int .i64 x.gen,.slice vd ds.length cvd,.int .i64 x.uI,.bool x.down,.bool x.uH]) (by simp [results,Tryz.results78,go_sem,s0,s1,s2,s3,s4,s5,s6,s7,s8,s9,s10,s11,s12]) rfl ?_
   rw [HV.out];exact HO.out
 obtain ⟨fc,mk,gc0,gc1⟩:=eL ha;cases hdn:x.down
 . have HX:Hid (x={x with down:=false}):=by unfold Hid;rw [←hdn]
   rw [hdn] at k11;by_cases hgg:x.gen<60000
   . have hg6:(x.gen==60000)=false:=by simp;omega
     have HV:Hid (jp x ms ds=cP ({x with down:=false},ms)):=by unfold Hid;rw [←HX.out,HD.out,if_pos (by simp [ha,hdn,hgg])]
     have hlen:=ia ha;clear hdn;have WK:Hid (∀(w':World) (B:Nat) (fm fd:List Nat),Below w1.heap.size w1 w'->w1.heap.size<=B->aD w' B {x with down:=false} ms ds fm fd->(∀b∈fm,w1.heap.size<=b)->(∀b∈fd,w1.heap.size<=b)->Calls Tryz.prog 134 (#[.pointer (some ⟨B,0,none⟩)]++#[]) w' (Did w' B fm ds fd (cP ({x with down:=false},ms)))):=fun w' B fm fd _ _ hA _ _=>mX w' B _ ms ds fm fd hA ha rfl hgg;go_wp2_with fail
     refine (qS _ E F G {x with down:=false} _ _ _ _ _ _ ms ds p0 p1 hw 134 #[] (cP ({x with down:=false},ms)) (fun B=>gV Tryz.func134 (by kernel_rfl) (by kernel_rfl) _) WK.out).mono ?_
     rintro e w2 hq;generalize cP ({x with down:=false},ms)=st at hq HV;obtain ⟨y,ns⟩:=st;obtain ⟨vm,vd,cvm,cvd,rfl,hin,b2⟩:=hq;dsimp only at hin ⊢
     obtain ⟨fm,fd,mm,md,hr2,rm,rd⟩:=hin;have R2:=R1.below b2 (by omega);have B2:=Below.andThen B1 b2;unfold aC;clear X1 R1 B1 p0 p1 b2 WK k0 k1 k2 k3 k4 k5 k6 k7 k8 k9 k10 k11 k12;obtain ⟨s0,s1,s2,s3,s4,s5,s6,s7,s8,s9,s10,s11,s12⟩:=R2.cells13;have fz:=R2.frozen;have HO:=aa (bR (y:=y) (ns:=ns) (e:=.returned (.agg (aC y _ _))) (lo:=BR+1) B2 R2 rfl mm md hr2 (fun b hb=>by have:=rm b hb;omega) (fun b hb=>by have:=rd b hb;omega) (by omega) (by omega));unfold aC at HO;simp only [bM] at HO
     clear B2 R2 mm md;go_wp2
     refine bodyPost_ret (v:=.agg #[.int .i64 y.id,.int .i64 y.n,.int .i64 y.s,.slice vm ns.length cvm,.int .i64 y.lost,.int .i64 y.uG,.int .i64 y.seq,.int .i64 y.tail,.int .i64 y.gen,.slice vd ds.length cvd,.int .i64 y.uI,.bool y.down,.bool y.uH]) (by simp [results,Tryz.results78,go_sem,s0,s1,s2,s3,s4,s5,s6,s7,s8,s9,s10,s11,s12]) rfl ?_
     rw [HV.out];exact HO.out
   have HV:Hid (jp x ms ds=({x with down:=false},ms)):=by unfold Hid;rw [←HX.out,HD.out,if_neg (by simp;omega)]
   have hg6:x.gen=60000:=by omega
   have k8g:=k8;have hg7:(x.gen==60000)=true:=by simpa using hg6
   clear hg6 k8g hdn;go_wp2_with fail
   refine (en _ E F G {x with down:=false} _ _ _ _ _ _ ms ds p0 p1 hw).mono ?_
   rintro e w2 ⟨vm,cvm,vd,cvd,m,rfl,om,od,zm,zm2,b2⟩;have R2:=R1.below b2 (by omega);have B2:=Below.andThen B1 b2;obtain ⟨fm,mm,rm⟩:=om.mine;obtain ⟨fd,md,rd⟩:=od.mine;have hr2:∀b∈fm,b∉fd:=fun b hb hb'=>by have h1:=rm b hb;have h2:=rd b hb';omega
   clear X1 R1 B1 p0 p1 b2 om od k0 k1 k2 k3 k4 k5 k6 k7 k8 k9 k10 k11 k12;obtain ⟨s0,s1,s2,s3,s4,s5,s6,s7,s8,s9,s10,s11,s12⟩:=R2.cells13;have fz:=R2.frozen;have HO:=aa (bR (y:={x with down:=false}) (ns:=ms) (e:=.returned (.agg (aC {x with down:=false} _ _))) (lo:=BR+1) B2 R2 rfl mm md hr2 (fun b hb=>by have:=rm b hb;omega) (fun b hb=>by have:=rd b hb;omega) (by omega) (by omega));unfold aC at HO;simp only [bM] at HO
   clear B2 R2 mm md;go_wp2
   refine bodyPost_ret (v:=.agg #[.int .i64 x.id,.int .i64 x.n,.int .i64 x.s,.slice vm ms.length cvm,.int .i64 x.lost,.int .i64 x.uG,.int .i64 x.seq,.int .i64 x.tail,.int .i64 x.gen,.slice vd ds.length cvd,.int .i64 x.uI,.bool false,.bool x.uH]) (by simp [results,Tryz.results78,go_sem,s0,s1,s2,s3,s4,s5,s6,s7,s8,s9,s10,s11,s12]) rfl ?_
   rw [HV.out];exact HO.out
 have HX:Hid (x={x with down:=true}):=by unfold Hid;rw [←hdn]
 have HV:Hid (jp x ms ds=({x with down:=true},ms)):=by unfold Hid;rw [←HX.out,HD.out,if_neg (by simp [hdn])]
 rw [hdn] at k11;clear hdn;go_wp2_with fail
 refine (en _ E F G {x with down:=true} _ _ _ _ _ _ ms ds p0 p1 hw).mono ?_
 rintro e w2 ⟨vm,cvm,vd,cvd,m,rfl,om,od,zm,zm2,b2⟩;have R2:=R1.below b2 (by omega);have B2:=Below.andThen B1 b2;obtain ⟨fm,mm,rm⟩:=om.mine;obtain ⟨fd,md,rd⟩:=od.mine;have hr2:∀b∈fm,b∉fd:=fun b hb hb'=>by have h1:=rm b hb;have h2:=rd b hb';omega
 clear X1 R1 B1 p0 p1 b2 om od k0 k1 k2 k3 k4 k5 k6 k7 k8 k9 k10 k11 k12;obtain ⟨s0,s1,s2,s3,s4,s5,s6,s7,s8,s9,s10,s11,s12⟩:=R2.cells13;have fz:=R2.frozen;have HO:=aa (bR (y:={x with down:=true}) (ns:=ms) (e:=.returned (.agg (aC {x with down:=true} _ _))) (lo:=BR+1) B2 R2 rfl mm md hr2 (fun b hb=>by have:=rm b hb;omega) (fun b hb=>by have:=rd b hb;omega) (by omega) (by omega));unfold aC at HO;simp only [bM] at HO
 clear B2 R2 mm md;go_wp2
 refine bodyPost_ret (v:=.agg #[.int .i64 x.id,.int .i64 x.n,.int .i64 x.s,.slice vm ms.length cvm,.int .i64 x.lost,.int .i64 x.uG,.int .i64 x.seq,.int .i64 x.tail,.int .i64 x.gen,.slice vd ds.length cvd,.int .i64 x.uI,.bool true,.bool x.uH]) (by simp [results,Tryz.results78,go_sem,s0,s1,s2,s3,s4,s5,s6,s7,s8,s9,s10,s11,s12]) rfl ?_
 rw [HV.out];exact HO.out
theorem kY (w:World) (E F G:TypeId) (x:al) (am ad:Option Addr) (nm cm nd cd:Nat) (ms:List ai) (ds:List (Int×List Int)) (m s:Int) (h0:(bk E F).Rd w [.slice am nm cm] ms) (h1:(aU G).Rd w [.slice ad nd cd] ds) (hw:aM ms ds<=2097152):
 Calls Tryz.prog 26 #[.agg #[.int .i64 x.id,.int .i64 x.n,.int .i64 x.s,.slice am nm cm,.int .i64 x.lost,.int .i64 x.uG,.int .i64 x.seq,.int .i64 x.tail,.int .i64 x.gen,.slice ad nd cd,.int .i64 x.uI,.bool x.down,.bool x.uH],.int .i64 m,.int .i64 s] w fun e w'=>iC w w' e (ey x ms ds m s) ds:=by
 obtain ⟨rfl,_⟩:=ae h0;obtain ⟨rfl,_⟩:=ae h1;have hwm:aK ms<=2097152:=by unfold aM at hw;omega
 have hnm:ms.length<=2097152:=by unfold aK at hwm;omega
 have hA:=(ah w (.cells #[.int .i64 x.id,.int .i64 x.n,.int .i64 x.s,.slice am ms.length cm,.int .i64 x.lost,.int .i64 x.uG,.int .i64 x.seq,.int .i64 x.tail,.int .i64 x.gen,.slice ad ds.length cd,.int .i64 x.uI,.bool x.down,.bool x.uH] 29)).alloc (by simp) (.cells #[.int .i64 0,.int .i64 0,.int .i64 0,.slice none 0 0,.int .i64 0,.int .i64 0,.int .i64 0,.int .i64 0,.int .i64 0,.slice none 0 0,.int .i64 0,.bool false,.bool false] 29);have X0:Box ((w.alloc (.cells #[.int .i64 x.id,.int .i64 x.n,.int .i64 x.s,.slice am ms.length cm,.int .i64 x.lost,.int .i64 x.uG,.int .i64 x.seq,.int .i64 x.tail,.int .i64 x.gen,.slice ad ds.length cd,.int .i64 x.uI,.bool x.down,.bool x.uH] 29)).alloc (.cells #[.int .i64 0,.int .i64 0,.int .i64 0,.slice none 0 0,.int .i64 0,.int .i64 0,.int .i64 0,.int .i64 0,.int .i64 0,.slice none 0 0,.int .i64 0,.bool false,.bool false] 29)) w.heap.size 29 #[.int .i64 x.id,.int .i64 x.n,.int .i64 x.s,.slice am ms.length cm,.int .i64 x.lost,.int .i64 x.uG,.int .i64 x.seq,.int .i64 x.tail,.int .i64 x.gen,.slice ad ds.length cd,.int .i64 x.uI,.bool x.down,.bool x.uH]:=(Box.new w _ _).alloc _;have R0:=Box.new (w.alloc (.cells #[.int .i64 x.id,.int .i64 x.n,.int .i64 x.s,.slice am ms.length cm,.int .i64 x.lost,.int .i64 x.uG,.int .i64 x.seq,.int .i64 x.tail,.int .i64 x.gen,.slice ad ds.length cd,.int .i64 x.uI,.bool x.down,.bool x.uH] 29)) 29 #[.int .i64 0,.int .i64 0,.int .i64 0,.slice none 0 0,.int .i64 0,.int .i64 0,.int .i64 0,.int .i64 0,.int .i64 0,.slice none 0 0,.int .i64 0,.bool false,.bool false];rw [World.size_alloc] at R0;have zX:=X0.lt;have zR:=R0.lt;have r0:=h0.below hA;have r1:=h1.below hA;obtain ⟨k0,k1,k2,k3,k4,k5,k6,k7,k8,k9,k10,k11,k12⟩:=X0.cells13;go_enter Tryz.func26,Tryz.ntmps26
 go_wp2_with fail
 generalize (w.alloc (.cells #[.int .i64 x.id,.int .i64 x.n,.int .i64 x.s,.slice am ms.length cm,.int .i64 x.lost,.int .i64 x.uG,.int .i64 x.seq,.int .i64 x.tail,.int .i64 x.gen,.slice ad ds.length cd,.int .i64 x.uI,.bool x.down,.bool x.uH] 29)).alloc (.cells #[.int .i64 0,.int .i64 0,.int .i64 0,.slice none 0 0,.int .i64 0,.int .i64 0,.int .i64 0,.int .i64 0,.int .i64 0,.slice none 0 0,.int .i64 0,.bool false,.bool false] 29)=W at hA X0 R0 zX zR r0 r1 k0 k1 k2 k3 k4 k5 k6 k7 k8 k9 k10 k11 k12 ⊢;refine (en _ E F G x _ _ _ _ _ _ ms ds r0 r1 hw).mono ?_
 rintro e w1 ⟨bm,cm1,bd,cd1,mx,rfl,om,od,zm,zm2,b1⟩;have bn:=ah w1 (.cells #[.int .i64 x.id,.int .i64 x.n,.int .i64 x.s,.slice bm ms.length cm1,.int .i64 x.lost,.int .i64 x.uG,.int .i64 x.seq,.int .i64 x.tail,.int .i64 x.gen,.slice bd ds.length cd1,.int .i64 x.uI,.bool x.down,.bool x.uH] 29);have b12:Below W.heap.size W (w1.alloc (.cells #[.int .i64 x.id,.int .i64 x.n,.int .i64 x.s,.slice bm ms.length cm1,.int .i64 x.lost,.int .i64 x.uG,.int .i64 x.seq,.int .i64 x.tail,.int .i64 x.gen,.slice bd ds.length cd1,.int .i64 x.uI,.bool x.down,.bool x.uH] 29)):=Below.andThen b1 bn;have Y:=Box.new w1 29 #[.int .i64 x.id,.int .i64 x.n,.int .i64 x.s,.slice bm ms.length cm1,.int .i64 x.lost,.int .i64 x.uG,.int .i64 x.seq,.int .i64 x.tail,.int .i64 x.gen,.slice bd ds.length cd1,.int .i64 x.uI,.bool x.down,.bool x.uH];have zY:=Y.lt;have z1:=b1.size;obtain ⟨fm,mm,rm⟩:=(om.below bn).mine;obtain ⟨fd,md,rd⟩:=(od.below bn).mine;have A2:aD (w1.alloc (.cells #[.int .i64 x.id,.int .i64 x.n,.int .i64 x.s,.slice bm ms.length cm1,.int .i64 x.lost,.int .i64 x.uG,.int .i64 x.seq,.int .i64 x.tail,.int .i64 x.gen,.slice bd ds.length cd1,.int .i64 x.uI,.bool x.down,.bool x.uH] 29)) w1.heap.size x ms ds fm fd:=⟨bm,bd,cm1,cd1,Y,mm,md,fun b hb hb'=>by have h1:=rm b hb;have h2:=rd b hb';omega,fun hm=>by have:=rm _ hm;omega,fun hm=>by have:=rd _ hm;omega⟩;have X2:=X0.below b12 zX;have R2:=R0.below b12 zR;have p0:=r0.below b12;have p1:=r1.below b12;have B2:=Below.andThen hA b12;have rm2:∀b∈fm,W.heap.size<=b:=fun b hb=>by have:=rm b hb;omega
 have rd2:∀b∈fd,W.heap.size<=b:=fun b hb=>by have:=rd b hb;omega
 clear k0 k1 k2 k3 k4 k5 k6 k7 k8 k9 k10 k11 k12 X0 R0 r0 r1 om od b1 bn b12 Y mm rm md rd hA;obtain ⟨k0,k1,k2,k3,k4,k5,k6,k7,k8,k9,k10,k11,k12⟩:=X2.cells13;go_wp2_with fail
 generalize w1.alloc (.cells #[.int .i64 x.id,.int .i64 x.n,.int .i64 x.s,.slice bm ms.length cm1,.int .i64 x.lost,.int .i64 x.uG,.int .i64 x.seq,.int .i64 x.tail,.int .i64 x.gen,.slice bd ds.length cd1,.int .i64 x.uI,.bool x.down,.bool x.uH] 29)=w2 at A2 X2 R2 p0 p1 B2 zY k0 k1 k2 k3 k4 k5 k6 k7 k8 k9 k10 k11 k12 ⊢;obtain ⟨B,hB⟩:∃B,w1.heap.size=B:=⟨_,rfl⟩;rw [hB] at A2 zY z1 ⊢;clear hB;refine (eR _ E F G x _ _ _ _ _ _ ms ds p0 p1 hw).mono ?_
 rintro e w3 ⟨rfl,b3⟩;have A3:=A2.below b3;have X3:=X2.below b3 X2.lt;have R3:=R2.below b3 R2.lt;have B3:=Below.andThen B2 b3;have q3:=p0.below b3;have z3:=b3.size;clear k0 k1 k2 k3 k4 k5 k6 k7 k8 k9 k10 k11 k12 A2 X2 R2 p0 p1 B2 b3;obtain ⟨k0,k1,k2,k3,k4,k5,k6,k7,k8,k9,k10,k11,k12⟩:=X3.cells13;cases ha:aX x ms ds
 . have HV:Hid (ey x ms ds m s=(x,ms)):=fV (by unfold ef;rw [ha];rfl)
   obtain ⟨vm,vd,cvm,cvd,Yf,mf,df,hrf,r1f,r2f⟩:=A3;have Y0:=Yf;unfold aC at Y0;obtain ⟨t0,t1,t2,t3,t4,t5,t6,t7,t8,t9,t10,t11,t12⟩:=Y0.cells13;obtain ⟨s0,s1,s2,s3,s4,s5,s6,s7,s8,s9,s10,s11,s12⟩:=R3.cells13;have fzr:=R3.frozen;have HO:=aa (bR (y:=x) (e:=.returned (.agg (aC x _ _))) B3 R3 rfl mf df hrf rm2 rd2 (by omega) (by omega));unfold aC at HO;simp only [bM] at HO
   clear X3 R3 B3 Yf Y0 mf df;go_wp2
   refine bodyPost_ret (v:=.agg #[.int .i64 x.id,.int .i64 x.n,.int .i64 x.s,.slice vm ms.length cvm,.int .i64 x.lost,.int .i64 x.uG,.int .i64 x.seq,.int .i64 x.tail,.int .i64 x.gen,.slice vd ds.length cvd,.int .i64 x.uI,.bool x.down,.bool x.uH]) (by simp [results,Tryz.results26,go_sem,s0,s1,s2,s3,s4,s5,s6,s7,s8,s9,s10,s11,s12]) rfl ?_
   rw [HV.out];exact HO.out
 have hg:bI x.n x.s=true:=by unfold aX at ha;simp only [Bool.and_eq_true] at ha;exact ha.1
 obtain ⟨g1,g2,g3,g4⟩:=az.1 hg;go_wp2_with fail
 refine (iF _ x _ _ _ _ _ _ m).mono ?_
 rintro e w4 ⟨rfl,b4⟩;have A4:=A3.below b4;have X4:=X3.below b4 X3.lt;have R4:=R3.below b4 R3.lt;have B4:=Below.andThen B3 b4;have z4:=b4.size;clear k0 k1 k2 k3 k4 k5 k6 k7 k8 k9 k10 k11 k12 A3 X3 R3 B3 b4 q3;obtain ⟨k0,k1,k2,k3,k4,k5,k6,k7,k8,k9,k10,k11,k12⟩:=X4.cells13;cases hm:inB m 0 ((ms.length:Int)-1)
 . have HV:Hid (ey x ms ds m s=(x,ms)):=fV (by unfold ef;rw [ha,hm];rfl)
   obtain ⟨vm,vd,cvm,cvd,Yf,mf,df,hrf,r1f,r2f⟩:=A4;have Y0:=Yf;unfold aC at Y0;obtain ⟨t0,t1,t2,t3,t4,t5,t6,t7,t8,t9,t10,t11,t12⟩:=Y0.cells13;obtain ⟨s0,s1,s2,s3,s4,s5,s6,s7,s8,s9,s10,s11,s12⟩:=R4.cells13;have fzr:=R4.frozen;have HO:=aa (bR (y:=x) (e:=.returned (.agg (aC x _ _))) B4 R4 rfl mf df hrf rm2 rd2 (by omega) (by omega));unfold aC at HO;simp only [bM] at HO
   clear X4 R4 B4 Yf Y0 mf df;go_wp2
   refine bodyPost_ret (v:=.agg #[.int .i64 x.id,.int .i64 x.n,.int .i64 x.s,.slice vm ms.length cvm,.int .i64 x.lost,.int .i64 x.uG,.int .i64 x.seq,.int .i64 x.tail,.int .i64 x.gen,.slice vd ds.length cvd,.int .i64 x.uI,.bool x.down,.bool x.uH]) (by simp [results,Tryz.results26,go_sem,s0,s1,s2,s3,s4,s5,s6,s7,s8,s9,s10,s11,s12]) rfl ?_
   rw [HV.out];exact HO.out
 go_wp2_with fail
 refine (cg _ x.n x.s s).mono ?_
 rintro e w5 ⟨rfl,b5⟩;have A5:=A4.below b5;have X5:=X4.below b5 X4.lt;have R5:=R4.below b5 R4.lt;have B5:=Below.andThen B4 b5;have z5:=b5.size;clear k0 k1 k2 k3 k4 k5 k6 k7 k8 k9 k10 k11 k12 A4 X4 R4 B4 b5;have hst:=jh (x:=x) (y:=s) hg;cases hs:bQ x.n x.s s
 . have HV:Hid (ey x ms ds m s=(x,ms)):=fV (by unfold ef;rw [←hst,hs,hm];simp)
   obtain ⟨vm,vd,cvm,cvd,Yf,mf,df,hrf,r1f,r2f⟩:=A5;have Y0:=Yf;unfold aC at Y0;obtain ⟨t0,t1,t2,t3,t4,t5,t6,t7,t8,t9,t10,t11,t12⟩:=Y0.cells13;obtain ⟨s0,s1,s2,s3,s4,s5,s6,s7,s8,s9,s10,s11,s12⟩:=R5.cells13;have fzr:=R5.frozen;have HO:=aa (bR (y:=x) (e:=.returned (.agg (aC x _ _))) B5 R5 rfl mf df hrf rm2 rd2 (by omega) (by omega));unfold aC at HO;simp only [bM] at HO
   clear X5 R5 B5 Yf Y0 mf df;go_wp2
   refine bodyPost_ret (v:=.agg #[.int .i64 x.id,.int .i64 x.n,.int .i64 x.s,.slice vm ms.length cvm,.int .i64 x.lost,.int .i64 x.uG,.int .i64 x.seq,.int .i64 x.tail,.int .i64 x.gen,.slice vd ds.length cvd,.int .i64 x.uI,.bool x.down,.bool x.uH]) (by simp [results,Tryz.results26,go_sem,s0,s1,s2,s3,s4,s5,s6,s7,s8,s9,s10,s11,s12]) rfl ?_
   rw [HV.out];exact HO.out
 have HB:Hid (ef x ms ds m s=true):=by unfold Hid ef;rw [ha,hm,←hst,hs];rfl
 obtain ⟨m1,m2⟩:=aG.1 hm;obtain ⟨j,rfl⟩:=Int.eq_ofNat_of_zero_le m1;have hj:j<ms.length:=by omega
 obtain ⟨bmf,bdf,cmf,cdf,Y,mmf,ddf,hrf,r1f,r2f⟩:=A5;obtain ⟨gm,hbm⟩:=bG mmf (by omega);subst hbm;obtain ⟨d,hdj⟩:∃d,ms[j]?=some d:=⟨_,List.getElem?_eq_getElem hj⟩;have HV0:=aa (mI HB.out hdj);have hgl:=mmf.lt gm (kd mmf);obtain ⟨_,a0,a1,a3,c0,c1,c3,ss,cs,f,bs,rfl,q0,q1,q2,q3,p0,p1,p3⟩:=dp mmf hdj;have hwd:=Nat.le_trans (cD hdj) hwm;have Y0:=Y;unfold aC at Y0;have zB:=Y.lt;have hS:w5.drew.cell? ⟨B,3,none⟩=some (.slice (some ⟨gm,0,none⟩) ms.length cmf)/\w5.drew.cell? ⟨gm,j*4,none⟩=some (.slice a0 ss.length c0)/\w5.drew.cell? ⟨gm,j*4+1,none⟩=some (.slice a1 cs.length c1)/\w5.drew.cell? ⟨gm,j*4+2,none⟩=some (.bool f)/\w5.drew.cell? ⟨gm,j*4+3,none⟩=some (.slice a3 bs.length c3):=⟨Y0.cells13.2.2.2.1,q0,q1,q2,q3⟩;have i1:(0:Int)<=(j:Int):=by omega
 have i3:(j:Int)<(ms.length:Int):=by omega
 have YH:=aa Y;have MH:=aa mmf;have DH:=aa ddf;have P0:=aa p0;have P1:=aa p1;have P3:=aa p3;clear Y Y0 mmf ddf p0 p1 p3 hm hs ha;go_wp2_with fail
 refine af.start (S:=fun w'=>w'.cell? ⟨B,3,none⟩=some (.slice (some ⟨gm,0,none⟩) ms.length cmf)/\w'.cell? ⟨gm,j*4,none⟩=some (.slice a0 ss.length c0)/\w'.cell? ⟨gm,j*4+1,none⟩=some (.slice a1 cs.length c1)/\w'.cell? ⟨gm,j*4+2,none⟩=some (.bool f)/\w'.cell? ⟨gm,j*4+3,none⟩=some (.slice a3 bs.length c3)) (k:=12) (by kernel_rfl) ?_
 refine af.t 0 hS ?_
 refine af.t 1 hS ?_
 refine af.t 2 hS ?_
 refine af.t 3 hS ?_
 refine af.t 4 hS ?_
 refine af.t 5 hS ?_
 refine af.t 6 hS ?_
 refine af.t 7 hS ?_
 refine af.t 8 hS ?_
 refine af.one (i:=9) (by kernel_rfl) rfl (fun K hK=>?_)
 go_simp
 refine (fM _ s).mono ?_
 rintro e wq ⟨rfl,hq⟩;subst hq;go_wp2_with fail
 refine hK.out _ _ (fun _=>hS) ?_
 clear hK K;refine af.one (i:=10) (by kernel_rfl) rfl (fun K hK=>?_)
 go_simp
 refine (kj _ 142 _ _ _ _ _ _ _ _ _ ss cs f bs (bp s) P0.out.drew P1.out.drew P3.out.drew hwd).mono ?_
 rintro e w6 ⟨u0,u1,u3,rfl,o6,b6'⟩;have b6:Below w5.heap.size w5 w6:=(Below.refl w5.heap.size w5).drew.trans b6';have o6b:(bC 142).Own w6 w5.heap.size w6.heap.size [u0,u1,.bool f,u3] (im (ss,cs,f,bs) s):=o6;obtain ⟨d0,l0,f0,d1,l1,f1,d3,l3,f3,hv0,hv1,hv3⟩:=bE o6b;subst hv0 hv1 hv3;obtain ⟨fpx,mx6,rx⟩:=o6b.mine;obtain ⟨cOld,fz,hgm,fm9,hA9,hMv9⟩:=di (m:=j) YH.out MH.out DH.out hrf r1f r2f b6 hj mx6 (fun b hb=>(rx b hb).1);obtain ⟨y0,t0⟩:=cOld 0 (by omega);obtain ⟨y1,t1⟩:=cOld 1 (by omega);obtain ⟨y2,t2⟩:=cOld 2 (by omega);obtain ⟨y3,t3⟩:=cOld 3 (by omega);rw [Nat.add_zero] at t0;have HA:=aa hA9;have HMV:=aa hMv9;have hS2:w6.cell? ⟨B,3,none⟩=some (.slice (some ⟨gm,0,none⟩) ms.length cmf)/\w6.cell? ⟨gm,j*4,none⟩=some (.slice a0 ss.length c0)/\w6.cell? ⟨gm,j*4+1,none⟩=some (.slice a1 cs.length c1)/\w6.cell? ⟨gm,j*4+2,none⟩=some (.bool f)/\w6.cell? ⟨gm,j*4+3,none⟩=some (.slice a3 bs.length c3):=⟨(b6.cell (p:=⟨B,3,none⟩) zB).trans hS.1,(b6.cell (p:=⟨gm,j*4,none⟩) hgl).trans hS.2.1,(b6.cell (p:=⟨gm,j*4+1,none⟩) hgl).trans hS.2.2.1,(b6.cell (p:=⟨gm,j*4+2,none⟩) hgl).trans hS.2.2.2.1,(b6.cell (p:=⟨gm,j*4+3,none⟩) hgl).trans hS.2.2.2.2⟩;have gB:¬gm=B:=fun e=>r1f (e▸hgm);unfold ez at HA HMV;clear o6 o6b b6 b6' mx6 rx cOld hA9 hMv9 YH MH DH P0 P1 P3;go_wp2_with fail
 refine hK.out _ _ (fun _=>hS2) ?_
 clear hK K;refine af.t 11 hS2 ?_
 refine af.one (i:=12) (by kernel_rfl) rfl (fun K hK=>?_)
 go_simp
 refine hK.out _ _ (fun h=>absurd rfl h) ?_
 clear hK K;refine af.done (by kernel_rfl) ?_ _
 clear hS hS2 t0 t1 t2 t3 fz;generalize (((w6.setCell ⟨gm,j*4,none⟩ (.slice d0 l0 f0)).setCell ⟨gm,j*4+1,none⟩ (.slice d1 l1 f1)).setCell ⟨gm,j*4+2,none⟩ (.bool f)).setCell ⟨gm,j*4+3,none⟩ (.slice d3 l3 f3)=w7 at HA HMV ⊢;have HV:=HV0;generalize ms.set j (im (ss,cs,f,bs) s)=ns at HA HV;clear HV0;have A7:=HA.out;have rm7:∀b∈fm9,W.heap.size<=b:=fun b hb=>by rcases HMV.out.2 b hb with h|h;exact rm2 b h;omega
 have R7:=HMV.out.box R5 (by omega) (fun hm=>by have:=rm2 _ hm;omega);have B7:=B5.trans (HMV.out.belowN (N:=w.heap.size) (by omega) (fun b hb=>by have:=rm2 b hb;omega) (by omega));have z7:=HMV.out.size;clear HA HMV;obtain ⟨vm,vd,cvm,cvd,Yf,mf,df,hrf,r1f,r2f⟩:=A7;have Y0:=Yf;unfold aC at Y0;obtain ⟨t0,t1,t2,t3,t4,t5,t6,t7,t8,t9,t10,t11,t12⟩:=Y0.cells13;obtain ⟨s0,s1,s2,s3,s4,s5,s6,s7,s8,s9,s10,s11,s12⟩:=R7.cells13;have fzr:=R7.frozen;have HO:=aa (bR (y:=x) (e:=.returned (.agg (aC x _ _))) B7 R7 rfl mf df hrf rm7 rd2 (by omega) (by omega));unfold aC at HO;simp only [bM] at HO
 clear R7 B7 Yf Y0 mf df;go_wp2
 refine bodyPost_ret (v:=.agg #[.int .i64 x.id,.int .i64 x.n,.int .i64 x.s,.slice vm ns.length cvm,.int .i64 x.lost,.int .i64 x.uG,.int .i64 x.seq,.int .i64 x.tail,.int .i64 x.gen,.slice vd ds.length cvd,.int .i64 x.uI,.bool x.down,.bool x.uH]) (by simp [results,Tryz.results26,go_sem,s0,s1,s2,s3,s4,s5,s6,s7,s8,s9,s10,s11,s12]) rfl ?_
 rw [HV.out];exact HO.out
end Go.Proofs.YtejokiafgbjdaaaGreat

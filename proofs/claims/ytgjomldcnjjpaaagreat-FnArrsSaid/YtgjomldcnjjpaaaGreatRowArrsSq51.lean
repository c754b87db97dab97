/-
 A drawn array, bent or not. Conditions: as the cursor has it.
-/
import Derived.Test.YtgjomldcnjjpaaaGreatRowArrsSq50
import Derived.Test.YtgjomldcnjjpaaaGreatRowArrsSq10
import Derived.Test.YtgjomldcnjjpaaaGreatRowArrsSq38
import Derived.Test.YtgjomldcnjjpaaaGreatRowArrsSq7
import Derived.Test.YtgjomldcnjjpaaaGreatRowArrsSq4
import Derived.Deep.Cut

set_option maxRecDepth 100000
set_option maxHeartbeats 8000000
set_option linter.unusedSimpArgs false

namespace Go.Proofs.YtgjomldcnjjpaaaGreat
open Go.RowKit

def Drw (w w':World) (v:Value):Prop:=
 ∃(x:aq) (ms:List ai) (ds:List aH) (vm vd:Option Addr) (cvm cvd:Nat) (fd:List Nat),v=.agg (bH x (.slice vm ms.length cvm) (.slice vd ds.length cvd))/\(bI 119 55).In w' w.heap.size w'.heap.size [.slice vm ms.length cvm] ms/\(aW 93).Mine w' [.slice vd ds.length cvd] ds fd/\(∀b∈fd,w.heap.size<=b)/\(bh ms ds<=100000/\-64<=x.n/\x.n<=64)/\Below w.heap.size w w'
def DrwE (w:World) (e:Ending) (w':World):Prop:=∃v,e=.returned v/\Drw w w' v
def D8 (w W:World) (R N M g:Nat) (a:Option Addr) (lb cb:Nat) (zs:List Int) (rc:Array Value) (x:aq) (ms:List ai) (ds:List aH) (vm vd:Option Addr) (cvm cvd:Nat) (fd:List Nat):Prop:=
 br W g a lb cb zs/\Below R w W/\Box W R 31 rc/\(bI 119 55).In W N M [.slice vm ms.length cvm] ms/\(aW 93).Mine W [.slice vd ds.length cvd] ds fd/\(∀b∈fd,N<=b/\b<M)/\w.heap.size=R/\R<g/\g<N/\N<=M/\M<=W.heap.size/\(0<lb->∀q,a=some q->q.block<R)/\(bh ms ds<=100000/\-64<=x.n/\x.n<=64)
theorem br.apart {w w':World} {g lb cb R:Nat} {a:Option Addr} {zs:List Int} (h:br w g a lb cb zs) (hb:But R (R+1) w w') (hR:R<g) (ha:0<lb->∀q,a=some q->q.block<R):br w' g a lb cb zs:=
 ⟨h.cur.but hb (.inr (by omega)),h.len,h.reads.lower (hb.below (B:=R) (Nat.le_refl _) (by have:=h.lt;omega)) (by rw [h.len];exact ha),h.bytes,h.few,h.ahead⟩
theorem D8.below {w W:World} {R N M g lb cb:Nat} {a:Option Addr} {zs:List Int} {rc:Array Value} {x:aq} {ms:List ai} {ds:List aH} {vm vd:Option Addr} {cvm cvd:Nat} {fd:List Nat} {W':World} (h:D8 w W R N M g a lb cb zs rc x ms ds vm vd cvm cvd fd) (hb:Below W.heap.size W W'):D8 w W' R N M g a lb cb zs rc x ms ds vm vd cvm cvd fd:=by
 obtain ⟨h1,h2,h3,h4,h5,h6,h7,h8,h9,h10,h11,h12,h13⟩:=h;have z:=h3.lt;have zg:=h1.lt;have zb:=hb.size;exact ⟨h1.lower hb (by omega),h2.trans (hb.mono (by omega)),h3.below hb h3.lt,h4.below hb,h5.below hb,h6,h7,h8,h9,h10,by omega,h12,h13⟩
theorem D8.draw {w W:World} {R N M g lb cb:Nat} {a:Option Addr} {zs:List Int} {rc:Array Value} {x:aq} {ms:List ai} {ds:List aH} {vm vd:Option Addr} {cvm cvd:Nat} {fd:List Nat} {W':World} (h:D8 w W R N M g a lb cb zs rc x ms ds vm vd cvm cvd fd) (hd:br W' g a lb cb zs) (hb:But g (g+1) W W'):D8 w W' R N M g a lb cb zs rc x ms ds vm vd cvm cvd fd:=by
 obtain ⟨h1,h2,h3,h4,h5,h6,h7,h8,h9,h10,h11,h12,h13⟩:=h;have z:=h3.lt;have zb:=hb.size;exact ⟨hd,h2.trans (hb.below (by omega) (by omega)),h3.kept (hb.block _ h3.lt (by omega)),h4.but hb (.inr (by omega)),h5.but hb (fun b hb'=>by have:=(h6 b hb').1;omega),h6,h7,h8,h9,h10,by omega,h12,h13⟩
theorem D8.put {w W:World} {R N M g lb cb:Nat} {a:Option Addr} {zs:List Int} {rc:Array Value} {x:aq} {ms:List ai} {ds:List aH} {vm vd:Option Addr} {cvm cvd:Nat} {fd:List Nat} {B:Nat} (h:D8 w W R N M g a lb cb zs rc x ms ds vm vd cvm cvd fd) (hB:M<=B) (l:List (Nat×Value)):D8 w (fa W B l) R N M g a lb cb zs rc x ms ds vm vd cvm cvd fd:=by
 obtain ⟨h1,h2,h3,h4,h5,h6,h7,h8,h9,h10,h11,h12,h13⟩:=h;have z:=h3.lt;have zg:=h1.lt;have hbt:=dj B l W;have zb:=hbt.size;exact ⟨h1.lower (hbt.below (B:=g+1) (by omega) (by omega)) (by omega),h2.trans (hbt.below (by omega) (by omega)),h3.kept (hbt.block _ h3.lt (by omega)),h4.but hbt (.inl hB),h5.but hbt (fun b hb=>by have:=(h6 b hb).2;omega),h6,h7,h8,h9,h10,by omega,h12,h13⟩
theorem D8.store {w W:World} {R N M g lb cb:Nat} {a:Option Addr} {zs:List Int} {x:aq} {ms:List ai} {ds:List aH} {vm vd:Option Addr} {cvm cvd:Nat} {fd:List Nat} {z0 z1 z2 z3 z4 z5 z6 z7 z8 z9 z10 z11 z12:Value} (h:D8 w W R N M g a lb cb zs #[z0,z1,z2,z3,z4,z5,z6,z7,z8,z9,z10,z11,z12] x ms ds vm vd cvm cvd fd):D8 w (fa W R [(0,.int .i64 x.id),(1,.int .i64 x.n),(2,.int .i64 x.s),(3,.slice vm ms.length cvm),(4,.int .i64 x.lost),(5,.int .i64 x.xW),(6,.int .i64 x.seq),(7,.int .i64 x.tail),(8,.int .i64 x.gen),(9,.slice vd ds.length cvd),(10,.int .i64 x.xY),(11,.bool x.down),(12,.bool x.xX)]) R N M g a lb cb zs (bH x (.slice vm ms.length cvm) (.slice vd ds.length cvd)) x ms ds vm vd cvm cvd fd:=by
 obtain ⟨h1,h2,h3,h4,h5,h6,h7,h8,h9,h10,h11,h12,h13⟩:=h;have z:=h3.lt;have hbt:=dj R [(0,.int .i64 x.id),(1,.int .i64 x.n),(2,.int .i64 x.s),(3,.slice vm ms.length cvm),(4,.int .i64 x.lost),(5,.int .i64 x.xW),(6,.int .i64 x.seq),(7,.int .i64 x.tail),(8,.int .i64 x.gen),(9,.slice vd ds.length cvd),(10,.int .i64 x.xY),(11,.bool x.down),(12,.bool x.xX)] W;have zb:=hbt.size;exact ⟨h1.apart hbt h8 h12,h2.trans (hbt.below (by omega) (by omega)),wS h3 (.int .i64 x.id) (.int .i64 x.n) (.int .i64 x.s) (.slice vm ms.length cvm) (.int .i64 x.lost) (.int .i64 x.xW) (.int .i64 x.seq) (.int .i64 x.tail) (.int .i64 x.gen) (.slice vd ds.length cvd) (.int .i64 x.xY) (.bool x.down) (.bool x.xX),h4.but hbt (.inr (by omega)),h5.but hbt (fun b hb=>by have:=(h6 b hb).1;omega),h6,h7,h8,h9,h10,by omega,h12,h13⟩
theorem ui {w W:World} {R lo hi:Nat} {x:aq} {ms:List ai} {ds:List aH} {vm vd:Option Addr} {cvm cvd:Nat} {fd:List Nat} (hR:w.heap.size=R) (hb:Below R w W) (hm:(bI 119 55).In W lo hi [.slice vm ms.length cvm] ms) (hd:(aW 93).Mine W [.slice vd ds.length cvd] ds fd) (hl:R<lo) (hh:hi<=W.heap.size) (hf:∀b∈fd,R<b) (hwt:bh ms ds<=100000/\-64<=x.n/\x.n<=64) (hz:R<W.heap.size):
 Drw w (fa W R [(0,.int .i64 x.id),(1,.int .i64 x.n),(2,.int .i64 x.s),(3,.slice vm ms.length cvm),(4,.int .i64 x.lost),(5,.int .i64 x.xW),(6,.int .i64 x.seq),(7,.int .i64 x.tail),(8,.int .i64 x.gen),(9,.slice vd ds.length cvd),(10,.int .i64 x.xY),(11,.bool x.down),(12,.bool x.xX)]) (.agg (bH x (.slice vm ms.length cvm) (.slice vd ds.length cvd))):=by
 have hbt:=dj R [(0,.int .i64 x.id),(1,.int .i64 x.n),(2,.int .i64 x.s),(3,.slice vm ms.length cvm),(4,.int .i64 x.lost),(5,.int .i64 x.xW),(6,.int .i64 x.seq),(7,.int .i64 x.tail),(8,.int .i64 x.gen),(9,.slice vd ds.length cvd),(10,.int .i64 x.xY),(11,.bool x.down),(12,.bool x.xX)] W;have zb:=hbt.size;exact ⟨x,ms,ds,vm,vd,cvm,cvd,fd,rfl,(hm.but hbt (.inr (by omega))).widen (by omega) (by omega),hd.but hbt (fun b hb'=>by have:=hf b hb';omega),fun b hb'=>by have:=hf b hb';omega,hwt,hR▸hb.trans (hbt.below (by omega) (by omega))⟩
theorem D8.out {w W:World} {R N M g lb cb:Nat} {a:Option Addr} {zs:List Int} {x:aq} {ms:List ai} {ds:List aH} {vm vd:Option Addr} {cvm cvd:Nat} {fd:List Nat} {rc:Array Value} (h:D8 w W R N M g a lb cb zs rc x ms ds vm vd cvm cvd fd):DrwE w (.returned (.agg (bH x (.slice vm ms.length cvm) (.slice vd ds.length cvd)))) (fa W R [(0,.int .i64 x.id),(1,.int .i64 x.n),(2,.int .i64 x.s),(3,.slice vm ms.length cvm),(4,.int .i64 x.lost),(5,.int .i64 x.xW),(6,.int .i64 x.seq),(7,.int .i64 x.tail),(8,.int .i64 x.gen),(9,.slice vd ds.length cvd),(10,.int .i64 x.xY),(11,.bool x.down),(12,.bool x.xX)]):=by
 obtain ⟨h1,h2,h3,h4,h5,h6,h7,h8,h9,h10,h11,h12,h13⟩:=h;exact ⟨_,rfl,ui h7 h2 h4 h5 (by omega) h11 (fun b hb=>by have:=(h6 b hb).1;omega) h13 h3.lt⟩
theorem Drw.out {w W w2:World} {R:Nat} {v:Value} (hR:w.heap.size=R) (hz:R<W.heap.size) (hb:Below R w W) (h:Drw W w2 v):∃(x:aq) (ms:List ai) (ds:List aH) (vm vd:Option Addr) (cvm cvd:Nat),v=.agg (bH x (.slice vm ms.length cvm) (.slice vd ds.length cvd))/\DrwE w (.returned (.agg (bH x (.slice vm ms.length cvm) (.slice vd ds.length cvd)))) (fa w2 R [(0,.int .i64 x.id),(1,.int .i64 x.n),(2,.int .i64 x.s),(3,.slice vm ms.length cvm),(4,.int .i64 x.lost),(5,.int .i64 x.xW),(6,.int .i64 x.seq),(7,.int .i64 x.tail),(8,.int .i64 x.gen),(9,.slice vd ds.length cvd),(10,.int .i64 x.xY),(11,.bool x.down),(12,.bool x.xX)]):=by
 obtain ⟨x,ms,ds,vm,vd,cvm,cvd,fd,rfl,hm,hd,hf,hwt,b2⟩:=h;have zb:=b2.size;exact ⟨x,ms,ds,vm,vd,cvm,cvd,rfl,_,rfl,ui hR (hb.trans (b2.mono (by omega))) hm hd (by omega) (Nat.le_refl _) (fun b hb'=>by have:=hf b hb';omega) hwt (by omega)⟩
theorem eG {w W:World} {g R B lb cb:Nat} {a:Option Addr} {zs:List Int} {x:aq} {ms:List ai} {ds:List aH} {vm vd:Option Addr} {cvm cvd:Nat} {fd:List Nat} {u0 u1 u2 u3 u6 u7 u8 u9 u10 u11 u12 u13 u14 u15 u16 u17 u18 u19 u20 u21 u22 u23 u24 u25 u26 u27 u28 u29 u30 u31 u32 u33 u34 u35 u36 u37 u38 u39 u40 u41 u42 u43 u44 u45 u46 u47 u48 u49 u50 u51 u52 u53 u54 u55 u56 u57 u58 u59 u60 u61 u62 u63 u64 u65 u66 u67 u68 u69 u70 u71 u72 u73 u74 u75 u76 u77 u78 u79 u80 u81 u82 u83 u84 u85 u86 u87 u88 u89 u90 u91:Value} (h:T6 w W g R B lb cb a zs x ms ds vm vd cvm cvd fd) (K:Act->World->Prop) (hK:∀(A:Act) (V:World),Code.wp Tryz.prog Code.ret (bodyPost Tryz.prog Tryz.f27 fun e w'=>Any6 w g a lb cb zs e w') A V->K A V):
 Code.wp Tryz.prog (Code.region 26 #[{ dst := some 91, op := Op.load 31 (Operand.tmp 5), type := 31, pos := "l06_arr.go:194", after := #[], guard := none }, { dst := none, op := Op.store 31 (Operand.tmp 4) (Operand.tmp 91), type := 0, pos := "l06_arr.go:194", after := #[{ on := 0, ground := Ground.data }, { on := 0, ground := Ground.phase }], guard := none }] false) (Exit.then K (bodyPost Tryz.prog Tryz.f27 fun e w' => Any6 w g a lb cb zs e w')) { tmps := #[u0, u1, u2, u3, .pointer (some ⟨R, 0, none⟩), .pointer (some ⟨B, 0, none⟩), u6, u7, u8, u9, u10, u11, u12, u13, u14, u15, u16, u17, u18, u19, u20, u21, u22, u23, u24, u25, u26, u27, u28, u29, u30, u31, u32, u33, u34, u35, u36, u37, u38, u39, u40, u41, u42, u43, u44, u45, u46, u47, u48, u49, u50, u51, u52, u53, u54, u55, u56, u57, u58, u59, u60, u61, u62, u63, u64, u65, u66, u67, u68, u69, u70, u71, u72, u73, u74, u75, u76, u77, u78, u79, u80, u81, u82, u83, u84, u85, u86, u87, u88, u89, u90, u91], defers := [] } W := by
 have HO:=aa h.out;obtain ⟨_,_,RX,YX,_⟩:=h;unfold bH at YX HO;simp only [fa] at HO
 obtain ⟨t0,t1,t2,t3,t4,t5,t6,t7,t8,t9,t10,t11,t12⟩:=YX.cells13;obtain ⟨r0,r1,r2,r3,r4,r5,r6,r7,r8,r9,r10,r11,r12⟩:=RX.cells13;have fz:=RX.frozen;clear RX YX;go_wp2
 refine bodyPost_ret (by simp [results,Tryz.results27,go_sem,r0,r1,r2,r3,r4,r5,r6,r7,r8,r9,r10,r11,r12];rfl) rfl ?_
 exact HO.out
theorem qo {w:World} {g lb cb:Nat} {a:Option Addr} {zs:List Int} (h:br w g a lb cb zs) (most:Int) (h0:0<=most) (h1:most<=200):
 Calls Tryz.prog 27 #[.pointer (some ⟨g,0,none⟩),.int .i64 most] w fun e w'=>Any6 w g a lb cb zs e w':=by
 have hg:=h.lt;have R0:=Box.new w 31 #[.int .i64 0,.int .i64 0,.int .i64 0,.slice none 0 0,.int .i64 0,.int .i64 0,.int .i64 0,.int .i64 0,.int .i64 0,.slice none 0 0,.int .i64 0,.bool false,.bool false];have D0:=h.alloc (.cells #[.int .i64 0,.int .i64 0,.int .i64 0,.slice none 0 0,.int .i64 0,.int .i64 0,.int .i64 0,.int .i64 0,.int .i64 0,.slice none 0 0,.int .i64 0,.bool false,.bool false] 31);have B0:Below g w (w.alloc (.cells #[.int .i64 0,.int .i64 0,.int .i64 0,.slice none 0 0,.int .i64 0,.int .i64 0,.int .i64 0,.int .i64 0,.int .i64 0,.slice none 0 0,.int .i64 0,.bool false,.bool false] 31)):=(af w _).mono (by omega);have hz0:(w.alloc (.cells #[.int .i64 0,.int .i64 0,.int .i64 0,.slice none 0 0,.int .i64 0,.int .i64 0,.int .i64 0,.int .i64 0,.int .i64 0,.slice none 0 0,.int .i64 0,.bool false,.bool false] 31)).heap.size=w.heap.size+1:=by simp
 clear h;go_enter Tryz.func27,Tryz.ntmps27
 go_wp2_with fail
 generalize w.alloc (.cells #[.int .i64 0,.int .i64 0,.int .i64 0,.slice none 0 0,.int .i64 0,.int .i64 0,.int .i64 0,.int .i64 0,.int .i64 0,.slice none 0 0,.int .i64 0,.bool false,.bool false] 31)=w0 at R0 D0 B0 hz0 ⊢;refine (tI D0 most h0 h1).mono ?_
 rintro e w1 ⟨q,ds,vm,vd,cvm,cvd,fm,fd,rfl,hm,hd,hr,rm,rd,hgood,D1,B1⟩;obtain ⟨x,ms⟩:=q;dsimp only at hm rm hgood ⊢
 obtain ⟨hwt,_⟩:=lh hgood;dsimp only at hwt
 have hln:3<=ms.length/\ms.length<=5:=wR hgood;have hsec:Hid (∀(k:Nat) (d:ai),ms[k]?=some d->6<d.1.length):=vj hgood;have z1:=B1.size;have R1:=B1.box R0 (by omega) (by omega);have zR1:=R1.lt;have Bl1:Below g w w1:=B0.trans (B1.below (M:=g) (by omega) (Nat.le_refl _));have nb:=af w1 (.cells #[.int .i64 x.id,.int .i64 x.n,.int .i64 x.s,.slice vm ms.length cvm,.int .i64 x.lost,.int .i64 x.xW,.int .i64 x.seq,.int .i64 x.tail,.int .i64 x.gen,.slice vd ds.length cvd,.int .i64 x.xY,.bool x.down,.bool x.xX] 31);have Y:=Box.new w1 31 #[.int .i64 x.id,.int .i64 x.n,.int .i64 x.s,.slice vm ms.length cvm,.int .i64 x.lost,.int .i64 x.xW,.int .i64 x.seq,.int .i64 x.tail,.int .i64 x.gen,.slice vd ds.length cvd,.int .i64 x.xY,.bool x.down,.bool x.xX];have S1:Hid (S6 w (w1.alloc (.cells #[.int .i64 x.id,.int .i64 x.n,.int .i64 x.s,.slice vm ms.length cvm,.int .i64 x.lost,.int .i64 x.xW,.int .i64 x.seq,.int .i64 x.tail,.int .i64 x.gen,.slice vd ds.length cvd,.int .i64 x.xY,.bool x.down,.bool x.xX] 31)) g w.heap.size w1.heap.size lb cb a zs x ms ds vm vd cvm cvd fm fd):=⟨D1.alloc _,Bl1.trans (nb.mono (by omega)),R1.below nb zR1,Y,hm.below nb,hd.below nb,fun b hb=>⟨hr b hb,by have:=rm b hb;omega,by have:=hm.lt b hb;omega⟩,fun b hb=>⟨by have:=rd b hb;omega,by have:=hd.lt b hb;omega⟩,hg,Nat.le_refl _,by omega,hwt,good_n hgood⟩;clear hm hd hr rm rd hgood D1 B1 R1 Bl1 nb Y R0 D0 B0;unfold bH;go_upto_region 2 with fail
 generalize w1.alloc (.cells #[.int .i64 x.id,.int .i64 x.n,.int .i64 x.s,.slice vm ms.length cvm,.int .i64 x.lost,.int .i64 x.xW,.int .i64 x.seq,.int .i64 x.tail,.int .i64 x.gen,.slice vd ds.length cvd,.int .i64 x.xY,.bool x.down,.bool x.xX] 31)=w2 at S1 ⊢;obtain ⟨B,hB⟩:∃B,w1.heap.size=B:=⟨_,rfl⟩;rw [hB] at S1 ⊢;clear hB;obtain ⟨R,hR⟩:∃R,w.heap.size=R:=⟨_,rfl⟩;rw [hR] at S1 ⊢;clear z1 zR1 hz0;have c3:=(by have h:=S1.out.2.2.2.1;unfold bH at h;exact h.cells13.2.2.2.1:w2.cell? ⟨B,3,none⟩=some (.slice vm ms.length cvm));have hl0:(0:Int)<=(ms.length:Int):=by omega
 go_wp2_with fail
 refine (bX S1.out.1 (ms.length:Int) (by omega) (by omega)).mono ?_
 rintro e w3 ⟨k,rfl,k0,k1,D3,b3⟩;have S3:=aa (S1.out.draw D3 b3);clear S1 D3 b3 c3;obtain ⟨k,rfl⟩:=Int.eq_ofNat_of_zero_le k0;have hk:k<ms.length:=by omega
 clear k0 k1;go_wp2_with fail
 refine (bX S3.out.1 20 (by omega) (by omega)).mono ?_
 rintro e w4 ⟨sv,rfl,v0,v1,D4,b4⟩;have S4:=aa (S3.out.draw D4 b4);clear S3 D4 b4;rcases (show sv=0∨sv=1∨sv=2∨sv=3∨sv=4∨sv=5∨sv=6∨sv=7∨sv=8∨sv=9∨sv=10∨10<sv by omega) with rfl|rfl|rfl|rfl|rfl|rfl|rfl|rfl|rfl|rfl|rfl|hsv
 . obtain ⟨gm,hvm⟩:=cY S4.out.2.2.2.2.1 (show 0<ms.length by omega)
   subst hvm;have hgm:=uj S4.out.2.2.2.2.1;have c3:w4.drew.cell? ⟨B,3,none⟩=some (.slice (some ⟨gm,0,none⟩) ms.length cvm):=(by have h:=S4.out.2.2.2.1;unfold bH at h;exact h.cells13.2.2.2.1);have i1:(0:Int)<=(k:Int):=by omega
   have i3:(k:Int)<(ms.length:Int):=by omega
   go_wp2_with fail
   refine ao.start (S:=fun w'=>w'.cell? ⟨B,3,none⟩=some (.slice (some ⟨gm,0,none⟩) ms.length cvm)) (k:=6) (by kernel_rfl) ?_
   refine ao.t 0 c3 ?_
   refine ao.t 1 c3 ?_
   refine ao.t 2 c3 ?_
   refine ao.t 3 c3 ?_
   refine ao.one (i:=4) (by kernel_rfl) rfl (fun K hK=>?_)
   go_simp
   refine (vk (eI S4.out.1)).mono ?_
   rintro e w6 ⟨v0,v1,v3,ss,cs,f,bs,rfl,j0,j1,j3,hwd,D6,b6⟩;have b6':But g (g+1) w4 w6:=⟨b6.os,b6.tape,b6.output,b6.size,b6.block⟩;have S6_:=S4.out.draw D6 b6';obtain ⟨a0,n0,hv0⟩:=aC j0.rd;obtain ⟨a1,n1,hv1⟩:=aC j1.rd;obtain ⟨a3,n3,hv3⟩:=aC j3.rd;subst hv0 hv1 hv3;obtain ⟨cOld,fz,HT0⟩:=S6_.put (k:=k) (l:=w4.heap.size) hk (vV (f:=f) j0 j1 j3) S4.out.2.2.2.1.lt (fun b hb=>S4.out.2.2.2.2.1.lt b hb) hwd hgm;obtain ⟨o0,t0⟩:=cOld 0 (by omega);obtain ⟨o1,t1⟩:=cOld 1 (by omega);obtain ⟨o2,t2⟩:=cOld 2 (by omega);obtain ⟨o3,t3⟩:=cOld 3 (by omega);rw [Nat.add_zero] at t0;have S7:=aa HT0;unfold gL at S7;have hS2:w6.cell? ⟨B,3,none⟩=some (.slice (some ⟨gm,0,none⟩) ms.length cvm):=(by have h:=S6_.2.2.2.1;unfold bH at h;exact h.cells13.2.2.2.1);generalize ms.set k (ss,cs,f,bs)=ms2 at S7;clear D6 b6 b6' j0 j1 j3 S6_ cOld HT0 S4 hwd hgm;go_wp2_with fail
   refine hK.out _ _ (fun _=>hS2) ?_
   clear hK K;refine ao.t 5 hS2 ?_
   refine ao.one (i:=6) (by kernel_rfl) rfl (fun K hK=>?_)
   go_simp
   refine hK.out _ _ (fun h=>absurd rfl h) ?_
   clear hK K;refine ao.done (by kernel_rfl) ?_ _
   clear hS2 t0 t1 t2 t3 fz c3;generalize (((w6.setCell ⟨gm,k*4,none⟩ (.slice a0 ss.length n0)).setCell ⟨gm,k*4+1,none⟩ (.slice a1 cs.length n1)).setCell ⟨gm,k*4+2,none⟩ (.bool f)).setCell ⟨gm,k*4+3,none⟩ (.slice a3 bs.length n3)=w7 at S7 ⊢;go_upto_region 26 with fail
   exact eG S7.out _ (by assumption)
 . have nb:=af w4 (.cells #[.int .i64 (-2),.int .i64 (-1),.int .i64 0,.int .i64 5] 3)
   have S5:=aa (S4.out.below nb);have RD:Hid (aJ .i64 (w4.alloc (.cells #[.int .i64 (-2),.int .i64 (-1),.int .i64 0,.int .i64 5] 3)) (some ⟨w4.heap.size,0,none⟩) [-2,-1,0,5]):=aJ.new _ _ _ _ _ rfl;have zB:g+1<=w4.heap.size:=by have:=S4.out.1.lt;omega
   clear S4 nb;go_wp2_with fail
   generalize w4.alloc (.cells #[.int .i64 (-2),.int .i64 (-1),.int .i64 0,.int .i64 5] 3)=w5 at S5 RD ⊢;refine (lg S5.out.1 _ _ _ [-2,-1,0,5] rfl RD.out (fun x hx=>by cases hx;exact zB) (by decide) (by decide)).mono ?_
   rintro e w6 ⟨v,rfl,_,D6,b6⟩;have S6_:=aa (S5.out.draw D6 b6);clear S5 RD D6 b6;have S7:Hid (S6 w (w6.setCell ⟨B,4,none⟩ (.int .i64 v)) g R B lb cb a zs {x with lost:=v} ms ds vm vd cvm cvd fm fd):=S6_.out.set (x':={x with lost:=v}) S6_.out.nb 4 _ rfl;have Y6:=S6_.out.2.2.2.1;unfold bH at Y6;have c:=Y6.cell 4;have fz0:=Y6.frozen;clear Y6 S6_;go_upto_region 26 with fail
   generalize w6.setCell ⟨B,4,none⟩ (.int .i64 v)=w7 at S7 ⊢;clear c fz0;exact eG S7.out.tail _ (by assumption)
 . have nb:=af w4 (.cells #[.int .i64 (-1),.int .i64 1,.int .i64 9] 3)
   have S5:=aa (S4.out.below nb);have RD:Hid (aJ .i64 (w4.alloc (.cells #[.int .i64 (-1),.int .i64 1,.int .i64 9] 3)) (some ⟨w4.heap.size,0,none⟩) [-1,1,9]):=aJ.new _ _ _ _ _ rfl;have zB:g+1<=w4.heap.size:=by have:=S4.out.1.lt;omega
   clear S4 nb;go_wp2_with fail
   generalize w4.alloc (.cells #[.int .i64 (-1),.int .i64 1,.int .i64 9] 3)=w5 at S5 RD ⊢;refine (lg S5.out.1 _ _ _ [-1,1,9] rfl RD.out (fun x hx=>by cases hx;exact zB) (by decide) (by decide)).mono ?_
   rintro e w6 ⟨v,rfl,_,D6,b6⟩;have S6_:=aa (S5.out.draw D6 b6);clear S5 RD D6 b6;have S7:Hid (S6 w (w6.setCell ⟨B,5,none⟩ (.int .i64 v)) g R B lb cb a zs {x with xW:=v} ms ds vm vd cvm cvd fm fd):=S6_.out.set (x':={x with xW:=v}) S6_.out.nb 5 _ rfl;have Y6:=S6_.out.2.2.2.1;unfold bH at Y6;have c:=Y6.cell 5;have fz0:=Y6.frozen;clear Y6 S6_;go_upto_region 26 with fail
   generalize w6.setCell ⟨B,5,none⟩ (.int .i64 v)=w7 at S7 ⊢;clear c fz0;exact eG S7.out.tail _ (by assumption)
 . have nb:=af w4 (.cells #[.int .i64 (-1),.int .i64 0,.int .i64 9,.int .i64 60000] 3)
   have S5:=aa (S4.out.below nb);have RD:Hid (aJ .i64 (w4.alloc (.cells #[.int .i64 (-1),.int .i64 0,.int .i64 9,.int .i64 60000] 3)) (some ⟨w4.heap.size,0,none⟩) [-1,0,9,60000]):=aJ.new _ _ _ _ _ rfl;have zB:g+1<=w4.heap.size:=by have:=S4.out.1.lt;omega
   clear S4 nb;go_wp2_with fail
   generalize w4.alloc (.cells #[.int .i64 (-1),.int .i64 0,.int .i64 9,.int .i64 60000] 3)=w5 at S5 RD ⊢;refine (lg S5.out.1 _ _ _ [-1,0,9,60000] rfl RD.out (fun x hx=>by cases hx;exact zB) (by decide) (by decide)).mono ?_
   rintro e w6 ⟨v,rfl,_,D6,b6⟩;have S6_:=aa (S5.out.draw D6 b6);clear S5 RD D6 b6;have S7:Hid (S6 w (w6.setCell ⟨B,6,none⟩ (.int .i64 v)) g R B lb cb a zs {x with seq:=v} ms ds vm vd cvm cvd fm fd):=S6_.out.set (x':={x with seq:=v}) S6_.out.nb 6 _ rfl;have Y6:=S6_.out.2.2.2.1;unfold bH at Y6;have c:=Y6.cell 6;have fz0:=Y6.frozen;clear Y6 S6_;go_upto_region 26 with fail
   generalize w6.setCell ⟨B,6,none⟩ (.int .i64 v)=w7 at S7 ⊢;clear c fz0;exact eG S7.out.tail _ (by assumption)
 . have nb:=af w4 (.cells #[.int .i64 (-1),.int .i64 60000,.int .i64 59990,.int .i64 60001] 3)
   have S5:=aa (S4.out.below nb);have RD:Hid (aJ .i64 (w4.alloc (.cells #[.int .i64 (-1),.int .i64 60000,.int .i64 59990,.int .i64 60001] 3)) (some ⟨w4.heap.size,0,none⟩) [-1,60000,59990,60001]):=aJ.new _ _ _ _ _ rfl;have zB:g+1<=w4.heap.size:=by have:=S4.out.1.lt;omega
   clear S4 nb;go_wp2_with fail
   generalize w4.alloc (.cells #[.int .i64 (-1),.int .i64 60000,.int .i64 59990,.int .i64 60001] 3)=w5 at S5 RD ⊢;refine (lg S5.out.1 _ _ _ [-1,60000,59990,60001] rfl RD.out (fun x hx=>by cases hx;exact zB) (by decide) (by decide)).mono ?_
   rintro e w6 ⟨v,rfl,_,D6,b6⟩;have S6_:=aa (S5.out.draw D6 b6);clear S5 RD D6 b6;have S7:Hid (S6 w (w6.setCell ⟨B,8,none⟩ (.int .i64 v)) g R B lb cb a zs {x with gen:=v} ms ds vm vd cvm cvd fm fd):=S6_.out.set (x':={x with gen:=v}) S6_.out.nb 8 _ rfl;have Y6:=S6_.out.2.2.2.1;unfold bH at Y6;have c:=Y6.cell 8;have fz0:=Y6.frozen;clear Y6 S6_;go_upto_region 26 with fail
   generalize w6.setCell ⟨B,8,none⟩ (.int .i64 v)=w7 at S7 ⊢;clear c fz0;exact eG S7.out.tail _ (by assumption)
 . have c9:w4.drew.cell? ⟨B,9,none⟩=some (.slice vd ds.length cvd):=(by have h:=S4.out.2.2.2.1;unfold bH at h;exact h.cells13.2.2.2.2.2.2.2.2.2.1)
   obtain ⟨i4,hi4,hz0,hz1,hz2⟩:=info_parts Tryz.infoEnt;go_wp2_with fail
   refine ao.start (S:=fun w'=>w'.cell? ⟨B,9,none⟩=some (.slice vd ds.length cvd)) (k:=11) (by kernel_rfl) ?_
   refine ao.t 0 c9 ?_
   refine ao.t 1 c9 ?_
   refine ao.t 2 c9 ?_
   refine ao.t 5 c9 ?_
   refine ao.one (i:=3) (by kernel_rfl) rfl (fun K hK=>?_)
   go_simp
   refine (bX (eI S4.out.1) 5 (by omega) (by omega)).mono ?_
   rintro e w5 ⟨st,rfl,s0,s1,D5,b5⟩;have S5:=aa (S4.out.draw D5 ⟨b5.os,b5.tape,b5.output,b5.size,b5.block⟩);have c95:w5.cell? ⟨B,9,none⟩=some (.slice vd ds.length cvd):=(by have h:=S5.out.2.2.2.1;unfold bH at h;exact h.cells13.2.2.2.2.2.2.2.2.2.1);clear S4 D5 b5;go_wp2_with fail
   refine hK.out _ _ (fun _=>c95) ?_
   clear hK K c9;have hws:IntKind.i64.wrap (st-1)=st-1:=IntWalk.i64_in _ (by omega);refine ao.t 4 c95 ?_
   refine ao.one (i:=6) (by kernel_rfl) rfl (fun K hK=>?_)
   go_simp
   refine (lV S5.out.1).mono ?_
   rintro e w6 ⟨v,xs,rfl,hxl,hO,D6,b6⟩;have S6_:=aa (S5.out.draw D6 b6);have c96:w6.cell? ⟨B,9,none⟩=some (.slice vd ds.length cvd):=(by have h:=S6_.out.2.2.2.1;unfold bH at h;exact h.cells13.2.2.2.2.2.2.2.2.2.1);obtain ⟨av,cv,hv,_⟩:=hO.shape;subst hv;obtain ⟨fx,mx,rx⟩:=(aS hO).mine;have NB5:Hid (B<w5.heap.size/\(∀b∈fd,b<w5.heap.size)/\w5.heap.size<=w6.heap.size):=⟨S5.out.2.2.2.1.lt,S5.out.2.2.2.2.2.1.lt,b6.size⟩;have MX:=aa mx;have RX5:=aa rx;clear S5 D6 b6 hO mx rx;go_wp2_with fail
   refine hK.out _ _ (fun _=>c96) ?_
   clear hK K c95;refine ao.t 7 c96 ?_
   have bn:=af w6 (.cells #[.int .i64 (st-1),.slice av xs.length cv] 93);have A1:=aa (S6_.out.2.2.2.2.2.1.alloc (.cells #[.int .i64 (st-1),.slice av xs.length cv] 93));have A2:=aa (Ty.Mine.alloc (eE (st-1) MX.out) (.cells #[.int .i64 (st-1),.slice av xs.length cv] 93));have NN:=aa (bN w6 #[.int .i64 (st-1),.slice av xs.length cv] 93);have c97:(w6.alloc (.cells #[.int .i64 (st-1),.slice av xs.length cv] 93)).cell? ⟨B,9,none⟩=some (.slice vd ds.length cvd):=(by have h:=(S6_.out.below bn).2.2.2.1;unfold bH at h;exact h.cells13.2.2.2.2.2.2.2.2.2.1);have BN:=aa bn;clear bn;refine ao.one (i:=8) (by kernel_rfl) rfl (fun K hK=>?_)
   go_simp
   refine hK.out _ _ (fun _=>c97) ?_
   clear hK K;try simp only [Act.put,List.setIfInBounds_toArray,List.set_cons_zero,List.set_cons_succ]
   have L0:ds.length<=20000:=by have h:=S6_.out.2.2.2.2.2.2.2.2.2.2.2.1;unfold bh aX at h;omega
   refine ao.one (i:=9) (by kernel_rfl) rfl (fun K hK=>?_)
   refine cS tWr rfl _ _ 29 rfl 93 i4 (.agg #[.int .i64 0,.slice none 0 0]) 32 Tryz.underlying29 hi4 hz0 hz1 hz2 rfl Nat.zero_lt_two (.slice vd ds.length cvd) ds fd rfl A1.out ⟨w6.heap.size,0,none⟩ 1 [.int .i64 (st-1),.slice av xs.length cv] (st-1,xs) fx rfl A2.out (fun b hb hm=>by have h1:=NB5.out.2.1 b hb;have h2:=(RX5.out b hm).1;omega) NN.out (by intro u hu;simp at hu;rcases hu with hu|hu<;>(rw [hu];rfl)) (by unfold maxLen;omega) (by omega) ?_
   intro gq cq w8 fp8 m8 n8 t8;have S7:Hid (T6 w (w8.setCell ⟨B,9,none⟩ (.slice (some ⟨gq,0,none⟩) (ds.length+1) cq)) g R B lb cb a zs x ms (ds++[(st-1,xs)]) vm (some ⟨gq,0,none⟩) cvm cq fp8):=S6_.out.ent (N:=w5.heap.size) BN.out m8 (fun b hb=>by
    rcases n8 b hb with h|h|h
    . exact .inl h
    . exact .inr (RX5.out b h).1
    have hz:=NB5.out.2.2;have:(w6.alloc (.cells #[.int .i64 (st-1),.slice av xs.length cv] 93)).heap.size=w6.heap.size+1:=by simp
    exact .inr (by omega)) NB5.out.1 t8 hxl
   have Y8:=((S6_.out.below BN.out).2.2.2.1.turned t8 (fun hm=>(S6_.out.2.2.2.2.2.2.2.1 B hm).2 rfl));unfold bH at Y8;have c98:w8.cell? ⟨B,9,none⟩=some (.slice vd ds.length cvd):=Y8.cells13.2.2.2.2.2.2.2.2.2.1;have fz8:=Y8.frozen;refine hK.out _ _ (fun _=>c98) ?_
   clear hK K c97 c96 m8 n8 t8 A1 A2 NN BN S6_ MX RX5 Y8;try simp only [Act.put,List.setIfInBounds_toArray,List.set_cons_zero,List.set_cons_succ]
   refine ao.t 10 c98 ?_
   refine ao.one (i:=11) (by kernel_rfl) rfl (fun K hK=>?_)
   go_simp
   refine hK.out _ _ (fun h=>absurd rfl h) ?_
   clear hK K;refine ao.done (by kernel_rfl) ?_ _
   have hle:ds.length+1=(ds++[(st-1,xs)]).length:=by simp
   rw [hle] at S7 ⊢;generalize ds++[(st-1,xs)]=ds2 at S7 ⊢;clear c98 fz8 hle;generalize w8.setCell ⟨B,9,none⟩ (.slice (some ⟨gq,0,none⟩) ds2.length cq)=w9 at S7 ⊢;go_upto_region 26 with fail
   exact eG S7.out _ (by assumption)
 . have S7:Hid (S6 w (w4.setCell ⟨B,12,none⟩ (.bool true)) g R B lb cb a zs {x with xX:=true} ms ds vm vd cvm cvd fm fd):=S4.out.set (x':={x with xX:=true}) S4.out.nb 12 _ rfl
   have Y6:=S4.out.2.2.2.1;unfold bH at Y6;have c:=Y6.cell 12;have fz0:=Y6.frozen;clear Y6 S4;go_upto_region 26 with fail
   generalize w4.setCell ⟨B,12,none⟩ (.bool true)=w7 at S7 ⊢;clear c fz0;exact eG S7.out.tail _ (by assumption)
 . have nb:=af w4 (.cells #[.int .i64 (-2),.int .i64 0,.int .i64 1,.int .i64 2,.int .i64 5,.int .i64 1001] 3)
   have S5:=aa (S4.out.below nb);have RD:Hid (aJ .i64 (w4.alloc (.cells #[.int .i64 (-2),.int .i64 0,.int .i64 1,.int .i64 2,.int .i64 5,.int .i64 1001] 3)) (some ⟨w4.heap.size,0,none⟩) [-2,0,1,2,5,1001]):=aJ.new _ _ _ _ _ rfl;have zB:g+1<=w4.heap.size:=by have:=S4.out.1.lt;omega
   clear S4 nb;go_wp2_with fail
   generalize w4.alloc (.cells #[.int .i64 (-2),.int .i64 0,.int .i64 1,.int .i64 2,.int .i64 5,.int .i64 1001] 3)=w5 at S5 RD ⊢;refine (lg S5.out.1 _ _ _ [-2,0,1,2,5,1001] rfl RD.out (fun x hx=>by cases hx;exact zB) (by decide) (by decide)).mono ?_
   rintro e w6 ⟨v,rfl,_,D6,b6⟩;have S6_:=aa (S5.out.draw D6 b6);clear S5 RD D6 b6;have S7:Hid (S6 w (w6.setCell ⟨B,10,none⟩ (.int .i64 v)) g R B lb cb a zs {x with xY:=v} ms ds vm vd cvm cvd fm fd):=S6_.out.set (x':={x with xY:=v}) S6_.out.nb 10 _ rfl;have Y6:=S6_.out.2.2.2.1;unfold bH at Y6;have c:=Y6.cell 10;have fz0:=Y6.frozen;clear Y6 S6_;go_upto_region 26 with fail
   generalize w6.setCell ⟨B,10,none⟩ (.int .i64 v)=w7 at S7 ⊢;clear c fz0;exact eG S7.out.tail _ (by assumption)
 . have S7:Hid (S6 w (w4.setCell ⟨B,11,none⟩ (.bool true)) g R B lb cb a zs {x with down:=true} ms ds vm vd cvm cvd fm fd):=S4.out.set (x':={x with down:=true}) S4.out.nb 11 _ rfl
   have Y6:=S4.out.2.2.2.1;unfold bH at Y6;have c:=Y6.cell 11;have fz0:=Y6.frozen;clear Y6 S4;go_upto_region 26 with fail
   generalize w4.setCell ⟨B,11,none⟩ (.bool true)=w7 at S7 ⊢;clear c fz0;exact eG S7.out.tail _ (by assumption)
 . obtain ⟨gm,hvm⟩:=cY S4.out.2.2.2.2.1 (show 0<ms.length by omega)
   subst hvm;have hgm:=uj S4.out.2.2.2.2.1;obtain ⟨d,hd⟩:∃d,ms[k]?=some d:=⟨_,List.getElem?_eq_some_iff.2 ⟨hk,rfl⟩⟩;have hq:=hsec.out k d hd;have c3:w4.drew.cell? ⟨B,3,none⟩=some (.slice (some ⟨gm,0,none⟩) ms.length cvm):=(by have h:=S4.out.2.2.2.1;unfold bH at h;exact h.cells13.2.2.2.1);obtain ⟨hgl,a0,a1,a3,n0,n1,n3,ss,cs,f,bs,rfl,p0,p1,p2,p3,r0,r1,r3⟩:=gh S4.out.2.2.2.2.1 hd;have i1:(0:Int)<=(k:Int):=by omega
   have i3:(k:Int)<(ms.length:Int):=by omega
   have hS:w4.drew.cell? ⟨B,3,none⟩=some (.slice (some ⟨gm,0,none⟩) ms.length cvm)/\w4.drew.cell? ⟨gm,k*4,none⟩=some (.slice a0 ss.length n0):=⟨c3,p0⟩;have hdn:bE 0=6:=by decide
   have q6:(6:Int)<(ss.length:Int):=by dsimp only at hq;omega
   go_wp2_with fail
   refine ao.start (S:=fun w'=>w'.cell? ⟨B,3,none⟩=some (.slice (some ⟨gm,0,none⟩) ms.length cvm)/\w'.cell? ⟨gm,k*4,none⟩=some (.slice a0 ss.length n0)) (k:=10) (by kernel_rfl) ?_
   refine ao.t 0 hS ?_
   refine ao.t 1 hS ?_
   refine ao.t 2 hS ?_
   refine ao.t 3 hS ?_
   refine ao.t 4 hS ?_
   refine ao.t 5 hS ?_
   refine ao.t 7 hS ?_
   refine ao.one (i:=6) (by kernel_rfl) rfl (fun K hK=>?_)
   go_simp
   refine (cF _ 0).mono ?_
   rintro e wq ⟨rfl,hq0⟩;subst hq0;rw [hdn];go_wp2_with fail
   refine hK.out _ _ (fun _=>hS) ?_
   clear hK K;refine ao.one (i:=8) (by kernel_rfl) rfl (fun K hK=>?_)
   go_simp
   refine (lU (eI S4.out.1)).mono ?_
   rintro e w6 ⟨v,xs,rfl,hxl,_,hO,D6,b6⟩;have b6':But g (g+1) w4 w6:=⟨b6.os,b6.tape,b6.output,b6.size,b6.block⟩;have S6_:=S4.out.draw D6 b6';obtain ⟨av,cv,hv,_⟩:=hO.shape;subst hv;obtain ⟨gs,c0,e1,e2,⟨old,e4⟩,e5,HT0⟩:=S6_.sec (k:=k) (q:=6) (l:=w4.heap.size) hd hq (aS hO).toIn S4.out.2.2.2.1.lt (fun b hb=>S4.out.2.2.2.2.1.lt b hb) (by omega);have hS2:w6.cell? ⟨B,3,none⟩=some (.slice (some ⟨gm,0,none⟩) ms.length cvm)/\w6.cell? ⟨gm,k*4,none⟩=some (.slice a0 ss.length n0):=⟨(by have h:=S6_.2.2.2.1;unfold bH at h;exact h.cells13.2.2.2.1),(by have hk6:=b6'.block gm hgl (by have:=(S4.out.2.2.2.2.2.2.1 gm hgm).2.1;have:=S4.out.2.2.2.2.2.2.2.2.1;omega);simp only [World.cell?,hk6]:w6.cell? ⟨gm,k*4,none⟩=w4.cell? ⟨gm,k*4,none⟩).trans p0⟩;have ea:a0=some ⟨gs,0,none⟩:=by have h:=hS2.2.symm.trans e1;simp at h;exact h.1
   subst ea;have S7:=aa HT0;dsimp only at S7
   generalize ms.set k (ss.set 6 xs,cs,f,bs)=ms2 at S7;clear D6 b6 b6' hO S6_ HT0 S4 hgm e1 r0 r1 r3 p0 p1 p2 p3 c3 hd hS;go_wp2_with fail
   refine hK.out _ _ (fun _=>hS2) ?_
   clear hK K;refine ao.t 9 hS2 ?_
   refine ao.one (i:=10) (by kernel_rfl) rfl (fun K hK=>?_)
   go_simp
   refine hK.out _ _ (fun h=>absurd rfl h) ?_
   clear hK K;refine ao.done (by kernel_rfl) ?_ _
   clear hS2 e4 e5;generalize w6.setCell ⟨gs,6,none⟩ (.slice av xs.length cv)=w7 at S7 ⊢;go_upto_region 26 with fail
   exact eG S7.out _ (by assumption)
 . go_wp2_with fail
   refine (qm S4.out.1).mono ?_
   rintro e w6 ⟨gn,gs,rfl,hgn,D6,b6⟩;have HGN:=aa hgn;clear hgn;have S6_:=aa (S4.out.draw D6 b6);clear S4 D6 b6;have S7:Hid (S6 w ((w6.setCell ⟨B,1,none⟩ (.int .i64 gn)).setCell ⟨B,2,none⟩ (.int .i64 gs)) g R B lb cb a zs {x with n:=gn,s:=gs} ms ds vm vd cvm cvd fm fd):=(S6_.out.set (x':={x with n:=gn}) HGN.out 1 _ rfl).set HGN.out 2 _ rfl;have Y6:=S6_.out.2.2.2.1;unfold bH at Y6;have ca:=Y6.cell 1;have cb2:=Y6.cell 2;have fz0:=Y6.frozen;clear Y6 S6_;go_upto_region 26 with fail
   generalize (w6.setCell ⟨B,1,none⟩ (.int .i64 gn)).setCell ⟨B,2,none⟩ (.int .i64 gs)=w7 at S7 ⊢;clear ca cb2 fz0;exact eG S7.out.tail _ (by assumption)
 have n0:(sv==0)=false:=by simp;omega
 have n1:(sv==1)=false:=by simp;omega
 have n2:(sv==2)=false:=by simp;omega
 have n3:(sv==3)=false:=by simp;omega
 have n4:(sv==4)=false:=by simp;omega
 have n5:(sv==5)=false:=by simp;omega
 have n6:(sv==6)=false:=by simp;omega
 have n7:(sv==7)=false:=by simp;omega
 have n8:(sv==8)=false:=by simp;omega
 have n9:(sv==9)=false:=by simp;omega
 have n10:(sv==10)=false:=by simp;omega
 clear hsv v0 v1;go_upto_region 26 with fail
 exact eG S4.out.tail _ (by assumption)
end Go.Proofs.YtgjomldcnjjpaaaGreat

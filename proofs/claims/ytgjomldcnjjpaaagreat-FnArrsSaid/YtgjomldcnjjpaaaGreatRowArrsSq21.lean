/-
 The walk of the specification's l4Draw: a Super that is right. Condition: at most 2097152 bytes to draw from.
-/
import Derived.Test.YtgjomldcnjjpaaaGreatRowArrsSq14
import Derived.Laws.IdiomCopy
import Derived.Test.YtgjomldcnjjpaaaGreatRowArrsSq17
import Derived.Test.YtgjomldcnjjpaaaGreatRowArrsSq7
import Derived.Test.YtgjomldcnjjpaaaGreatRowArrsSq4

set_option maxRecDepth 100000
set_option maxHeartbeats 8000000
set_option linter.unusedSimpArgs false

namespace Go.Proofs.YtgjomldcnjjpaaaGreat
open Go.RowKit

def ofW (zs:List Int):Sup:=⟨zs.getD 1 0,zs.getD 2 0,zs.getD 3 0,zs.getD 4 0,zs.getD 5 0,zs.getD 6 0,IntKind.i64.wrap (zs.getD 7 0-1),zs.getD 8 0⟩
def iX (zs:List Int):Bool:=decide (zs.length=9)&&(decide (zs.getD 0 0=21317)&&ft (ofW zs))
def bj (zs:List Int):Sup:=if iX zs=true then ofW zs else oV
theorem vx {zs:List Int} (h:¬zs.length=9):iX zs=false:=by unfold iX;simp [h]
theorem vy {zs:List Int} (h:iX zs=false):bj zs=oV:=by unfold bj;rw [if_neg (by simp [h])]
theorem tO {zs:List Int} (h:iX zs=true):bj zs=ofW zs:=by unfold bj;rw [if_pos h]
theorem aJ.nine {w:World} {a:Option Addr} {z0 z1 z2 z3 z4 z5 z6 z7 z8:Int} (h:aJ .i64 w a [z0,z1,z2,z3,z4,z5,z6,z7,z8]):
 ∃b off,a=some ⟨b,off,none⟩/\b<w.heap.size/\w.cell? ⟨b,off,none⟩=some (.int .i64 z0)/\w.cell? ⟨b,off+1,none⟩=some (.int .i64 z1)/\w.cell? ⟨b,off+2,none⟩=some (.int .i64 z2)/\w.cell? ⟨b,off+3,none⟩=some (.int .i64 z3)/\w.cell? ⟨b,off+4,none⟩=some (.int .i64 z4)/\w.cell? ⟨b,off+5,none⟩=some (.int .i64 z5)/\w.cell? ⟨b,off+6,none⟩=some (.int .i64 z6)/\w.cell? ⟨b,off+7,none⟩=some (.int .i64 z7)/\w.cell? ⟨b,off+8,none⟩=some (.int .i64 z8):=by
 rcases h with h|⟨b,off,ha,hlt,hc⟩
 . simp at h
 exact ⟨b,off,ha,hlt,hc 0 (by simp),hc 1 (by simp),hc 2 (by simp),hc 3 (by simp),hc 4 (by simp),hc 5 (by simp),hc 6 (by simp),hc 7 (by simp),hc 8 (by simp)⟩
theorem Box.cells9 {w:World} {B:Nat} {T:TypeId} {v0 v1 v2 v3 v4 v5 v6 v7 v8:Value} (h:Box w B T #[v0,v1,v2,v3,v4,v5,v6,v7,v8]):w.cell? ⟨B,0,none⟩=some v0/\w.cell? ⟨B,1,none⟩=some v1/\w.cell? ⟨B,2,none⟩=some v2/\w.cell? ⟨B,3,none⟩=some v3/\w.cell? ⟨B,4,none⟩=some v4/\w.cell? ⟨B,5,none⟩=some v5/\w.cell? ⟨B,6,none⟩=some v6/\w.cell? ⟨B,7,none⟩=some v7/\w.cell? ⟨B,8,none⟩=some v8:=⟨h.cell 0,h.cell 1,h.cell 2,h.cell 3,h.cell 4,h.cell 5,h.cell 6,h.cell 7,h.cell 8⟩
theorem kd {T:TypeId} {B:Nat}:∀(cs:List Value) (o:Nat) (w:World) (ds:Array Value),Box w B T ds->∃es:Array Value,Box (w.setCells B o cs) B T es/\es.size=ds.size/\aA [B] w (w.setCells B o cs)
 | [],_,w,ds,h=>⟨ds,h,rfl,aA.refl _ _⟩
 | c :: r,o,w,ds,h=>by
  obtain ⟨es,h1,h2,h3⟩:=kd r (o+1) (w.setCell ⟨B,o,none⟩ c) _ (h.set o c);refine ⟨es,h1,by rw [h2];simp,aA.trans (aA.setCell c (by simp)) h3⟩
theorem vz {T:TypeId} {B:Nat} {cs:List Value} {w:World} {ds:Array Value} (h:Box w B T ds) (hl:cs.length=ds.size):Box (w.setCells B 0 cs) B T cs.toArray/\aA [B] w (w.setCells B 0 cs):=by
 obtain ⟨es,h1,h2,h3⟩:=kd cs 0 w ds h;have e:es=cs.toArray:=by
  apply Array.ext
  . simp [h2,hl]
  intro i hi hi';have hc:=World.cell?_setCells_in B cs 0 w (fun j hj=>by rw [Nat.zero_add,h.cell j,Array.getElem?_eq_getElem (by omega)];rfl) i (by simpa using hi');rw [Nat.zero_add,h1.cell i,Array.getElem?_eq_getElem hi] at hc;simpa using hc
 rw [e] at h1;exact ⟨h1,h3⟩
def lA (w:World) (B:Nat) (v0 v1 v2 v3 v4 v5 v6 v7:Value):World:=((((((((w).setCell ⟨B,0,none⟩ v0).setCell ⟨B,1,none⟩ v1).setCell ⟨B,2,none⟩ v2).setCell ⟨B,3,none⟩ v3).setCell ⟨B,4,none⟩ v4).setCell ⟨B,5,none⟩ v5).setCell ⟨B,6,none⟩ v6).setCell ⟨B,7,none⟩ v7
theorem ec (w:World) (B:Nat) (v0 v1 v2 v3 v4 v5 v6 v7:Value):But B (B+1) w (lA w B v0 v1 v2 v3 v4 v5 v6 v7):=by
 unfold lA;exact (((((((But.setCell (by omega) (by omega) _).trans (But.setCell (by omega) (by omega) _)).trans (But.setCell (by omega) (by omega) _)).trans (But.setCell (by omega) (by omega) _)).trans (But.setCell (by omega) (by omega) _)).trans (But.setCell (by omega) (by omega) _)).trans (But.setCell (by omega) (by omega) _)).trans (But.setCell (by omega) (by omega) _)
theorem fH (w:World) (z0 z1 z2 z3 z4 z5 z6 z7 z8 l7:Int) (hw:IntKind.i64.wrap (z7-1)=l7):Calls Tryz.prog 141 #[.agg #[.int .i64 z0,.int .i64 z1,.int .i64 z2,.int .i64 z3,.int .i64 z4,.int .i64 z5,.int .i64 z6,.int .i64 z7,.int .i64 z8]] w fun e w'=>e=.returned (.agg #[.int .i64 z1,.int .i64 z2,.int .i64 z3,.int .i64 z4,.int .i64 z5,.int .i64 z6,.int .i64 l7,.int .i64 z8])/\Below w.heap.size w w':=by
 go_enter Tryz.func141,Tryz.ntmps141
 go_wp2
 refine bodyPost_ret (v:=.agg #[.int .i64 z1,.int .i64 z2,.int .i64 z3,.int .i64 z4,.int .i64 z5,.int .i64 z6,.int .i64 l7,.int .i64 z8]) (by simp [results,Tryz.results141,go_sem]) rfl ?_
 refine ⟨rfl,?_⟩
 exact (af w _).alloc (by simp) _
theorem nD {zs:List Int} (h:iX zs=false):(.agg #[.int .i64 (bj zs).id,.int .i64 (bj zs).gen,.int .i64 (bj zs).role,.int .i64 (bj zs).n,.int .i64 (bj zs).s,.int .i64 (bj zs).tail,.int .i64 (bj zs).lost,.int .i64 (bj zs).xW]:Value)=.agg #[.int .i64 0,.int .i64 0,.int .i64 0,.int .i64 0,.int .i64 0,.int .i64 0,.int .i64 0,.int .i64 0]:=by rw [vy h];rfl
theorem vA {z0 z1 z2 z3 z4 z5 z6 z7 z8 l7:Int} (hw:IntKind.i64.wrap (z7-1)=l7) (h:iX [z0,z1,z2,z3,z4,z5,z6,z7,z8]=true):(.agg #[.int .i64 (bj [z0,z1,z2,z3,z4,z5,z6,z7,z8]).id,.int .i64 (bj [z0,z1,z2,z3,z4,z5,z6,z7,z8]).gen,.int .i64 (bj [z0,z1,z2,z3,z4,z5,z6,z7,z8]).role,.int .i64 (bj [z0,z1,z2,z3,z4,z5,z6,z7,z8]).n,.int .i64 (bj [z0,z1,z2,z3,z4,z5,z6,z7,z8]).s,.int .i64 (bj [z0,z1,z2,z3,z4,z5,z6,z7,z8]).tail,.int .i64 (bj [z0,z1,z2,z3,z4,z5,z6,z7,z8]).lost,.int .i64 (bj [z0,z1,z2,z3,z4,z5,z6,z7,z8]).xW]:Value)=.agg #[.int .i64 z1,.int .i64 z2,.int .i64 z3,.int .i64 z4,.int .i64 z5,.int .i64 z6,.int .i64 l7,.int .i64 z8]:=by rw [tO h,←hw];rfl
theorem uA {z0 z1 z2 z3 z4 z5 z6 z7 z8:Int} (h:¬z0=21317):iX [z0,z1,z2,z3,z4,z5,z6,z7,z8]=false:=by unfold iX;simp [h]
theorem vB {z0 z1 z2 z3 z4 z5 z6 z7 z8 l7:Int} (hw:IntKind.i64.wrap (z7-1)=l7) (h0:z0=21317):iX [z0,z1,z2,z3,z4,z5,z6,z7,z8]=ft ⟨z1,z2,z3,z4,z5,z6,l7,z8⟩:=by subst h0;subst hw;unfold iX;simp [ofW]
theorem lC (w:World) (a:Option Addr) (n cap:Nat) (zs:List Int) (hr:aJ .i64 w a zs) (hn:zs.length=n) (hm:n<=2097152):Calls Tryz.prog 123 #[.slice a n cap] w fun e w'=>e=.returned (.tuple #[.agg #[.int .i64 (bj zs).id,.int .i64 (bj zs).gen,.int .i64 (bj zs).role,.int .i64 (bj zs).n,.int .i64 (bj zs).s,.int .i64 (bj zs).tail,.int .i64 (bj zs).lost,.int .i64 (bj zs).xW],.bool (iX zs)])/\Below w.heap.size w w':=by
 have hA:=(af w (.cells #[.int .i64 0,.int .i64 0,.int .i64 0,.int .i64 0,.int .i64 0,.int .i64 0,.int .i64 0,.int .i64 0] 71)).alloc (by simp) (.cells #[.int .i64 0,.int .i64 0,.int .i64 0,.int .i64 0,.int .i64 0,.int .i64 0,.int .i64 0,.int .i64 0,.int .i64 0] 133);by_cases h9:n=9
 . subst h9
   obtain ⟨z0,z1,z2,z3,z4,z5,z6,z7,z8,rfl⟩:=nine9 hn;obtain ⟨b,off,rfl,hb,q0,q1,q2,q3,q4,q5,q6,q7,q8⟩:=hr.nine;obtain ⟨l7,hl7⟩:∃l,IntKind.i64.wrap (z7-1)=l:=⟨_,rfl⟩;have X1:=Box.new (w.alloc (.cells #[.int .i64 0,.int .i64 0,.int .i64 0,.int .i64 0,.int .i64 0,.int .i64 0,.int .i64 0,.int .i64 0] 71)) 133 #[.int .i64 0,.int .i64 0,.int .i64 0,.int .i64 0,.int .i64 0,.int .i64 0,.int .i64 0,.int .i64 0,.int .i64 0];have R1:=(Box.new w 71 #[.int .i64 0,.int .i64 0,.int .i64 0,.int .i64 0,.int .i64 0,.int .i64 0,.int .i64 0,.int .i64 0]).alloc (.cells #[.int .i64 0,.int .i64 0,.int .i64 0,.int .i64 0,.int .i64 0,.int .i64 0,.int .i64 0,.int .i64 0,.int .i64 0] 133);rw [World.size_alloc] at X1;obtain ⟨W,hW⟩:∃W,(w.alloc (.cells #[.int .i64 0,.int .i64 0,.int .i64 0,.int .i64 0,.int .i64 0,.int .i64 0,.int .i64 0,.int .i64 0] 71)).alloc (.cells #[.int .i64 0,.int .i64 0,.int .i64 0,.int .i64 0,.int .i64 0,.int .i64 0,.int .i64 0,.int .i64 0,.int .i64 0] 133)=W:=⟨_,rfl⟩;rw [hW] at hA X1 R1;have hrW:=hr.old (B:=w.heap.size) (by intro x hx;simp at hx;rw [←hx];exact hb) hA;have hcp:∀ty,(Builtin.copy_ #[42,42] ty #[.slice (some ⟨w.heap.size+1,0,none⟩) 9 9,.slice (some ⟨b,off,none⟩) 9 cap]).run Tryz.prog W=.ok (goInt 9) (W.setCells (w.heap.size+1) 0 ([z0,z1,z2,z3,z4,z5,z6,z7,z8].map (Value.int .i64))):=fun ty=>
    run_copy_cells W 42 42 ty 3 (w.heap.size+1) 0 9 9 ⟨b,off,none⟩ 9 cap ([z0,z1,z2,z3,z4,z5,z6,z7,z8].map (Value.int .i64)) Tryz.underlying42 (by kernel_rfl) rfl hrW.cells
     (fun j hj=>by rw [Nat.zero_add,X1.cell j,Array.getElem?_eq_getElem (by simpa using hj)];rfl) (fun j hj=>X1.frozen _) (jH _)
   obtain ⟨X2,t2⟩:=vz (cs:=[z0,z1,z2,z3,z4,z5,z6,z7,z8].map (Value.int .i64)) X1 rfl;have R2:=R1.turned t2 (by simp);have B2:=hA.trans (t2.below (N:=w.heap.size) hA.size (by simp));have hX2:([z0,z1,z2,z3,z4,z5,z6,z7,z8].map (Value.int .i64)).toArray=#[.int .i64 z0,.int .i64 z1,.int .i64 z2,.int .i64 z3,.int .i64 z4,.int .i64 z5,.int .i64 z6,.int .i64 z7,.int .i64 z8]:=rfl;rw [hX2] at X2;generalize W.setCells (w.heap.size+1) 0 ([z0,z1,z2,z3,z4,z5,z6,z7,z8].map (Value.int .i64))=W2 at hcp X2 R2 B2;clear hX2 t2 X1 R1 hrW hA q0 q1 q2 q3 q4 q5 q6 q7 q8 hr hb;subst hW;obtain ⟨x0,x1,x2,x3,x4,x5,x6,x7,x8⟩:=X2.cells9;have XX:=aa X2;have RR:=aa R2;have BB:=aa B2;clear X2 R2 B2;by_cases h0:z0=21317
   . have HB:=vB (z1:=z1) (z2:=z2) (z3:=z3) (z4:=z4) (z5:=z5) (z6:=z6) (z8:=z8) hl7 h0
     subst h0;by_cases hs:ft ⟨z1,z2,z3,z4,z5,z6,l7,z8⟩=true
     . have hB:=HB.trans hs
       rw [vA hl7 hB,hB];clear HB hB;have hs':=aa hs;clear hs;go_enter Tryz.func123,Tryz.ntmps123
       go_wp2_with fail
       refine (fH _ _ z1 z2 z3 z4 z5 z6 z7 z8 l7 hl7).mono ?_
       rintro e w3 ⟨rfl,b3⟩;have zX:=XX.out.lt;have R3:=RR.out.below b3 RR.out.lt;have A3:=XX.out.below b3 zX;have B3:=Below.andThen BB.out b3;clear x0 x1 x2 x3 x4 x5 x6 x7 x8 XX RR BB b3 hcp zX;have R4:=aa (R3.alloc (.cells #[.int .i64 z1,.int .i64 z2,.int .i64 z3,.int .i64 z4,.int .i64 z5,.int .i64 z6,.int .i64 l7,.int .i64 z8] 71));have A4:=aa (A3.alloc (.cells #[.int .i64 z1,.int .i64 z2,.int .i64 z3,.int .i64 z4,.int .i64 z5,.int .i64 z6,.int .i64 l7,.int .i64 z8] 71));have X4:=aa (Box.new w3 71 #[.int .i64 z1,.int .i64 z2,.int .i64 z3,.int .i64 z4,.int .i64 z5,.int .i64 z6,.int .i64 l7,.int .i64 z8]);have B4:=aa (B3.alloc B3.size (.cells #[.int .i64 z1,.int .i64 z2,.int .i64 z3,.int .i64 z4,.int .i64 z5,.int .i64 z6,.int .i64 l7,.int .i64 z8] 71));clear R3 A3 B3;obtain ⟨x0,x1,x2,x3,x4,x5,x6,x7⟩:=X4.out.cells8;have ya:=A4.out.cell 0;go_wp2_with fail
       generalize w3.alloc (.cells #[.int .i64 z1,.int .i64 z2,.int .i64 z3,.int .i64 z4,.int .i64 z5,.int .i64 z6,.int .i64 l7,.int .i64 z8] 71)=w4 at R4 A4 X4 B4 x0 x1 x2 x3 x4 x5 x6 x7 ya ⊢;refine (eC _ ⟨z1,z2,z3,z4,z5,z6,l7,z8⟩).mono ?_
       rintro e w5 ⟨rfl,b5⟩;have R5:=R4.out.below b5 R4.out.lt;have X5:=X4.out.below b5 X4.out.lt;have B5:=aa (Below.andThen B4.out b5);clear x0 x1 x2 x3 x4 x5 x6 x7 R4 X4 B4 A4 b5;rw [hs'.out];obtain ⟨x0,x1,x2,x3,x4,x5,x6,x7⟩:=X5.cells8;obtain ⟨p0,p1,p2,p3,p4,p5,p6,p7⟩:=R5.cells8;have fz:=R5.frozen;have FB:=aa (Below.andBut B5.out (ec w5 w.heap.size (.int .i64 z1) (.int .i64 z2) (.int .i64 z3) (.int .i64 z4) (.int .i64 z5) (.int .i64 z6) (.int .i64 l7) (.int .i64 z8)) (Nat.le_refl _));unfold lA at FB;go_wp2
       refine bodyPost_ret (v:=.tuple #[.agg #[.int .i64 z1,.int .i64 z2,.int .i64 z3,.int .i64 z4,.int .i64 z5,.int .i64 z6,.int .i64 l7,.int .i64 z8],.bool true]) (by simp [results,Tryz.results123,go_sem,p0,p1,p2,p3,p4,p5,p6,p7]) rfl ?_
       exact ⟨rfl,FB.out⟩
     have hs1:ft ⟨z1,z2,z3,z4,z5,z6,l7,z8⟩=false:=by simpa using hs
     have hB:=HB.trans hs1;rw [nD hB,hB];clear HB hB hs;have hs':=aa hs1;clear hs1;go_enter Tryz.func123,Tryz.ntmps123
     go_wp2_with fail
     refine (fH _ _ z1 z2 z3 z4 z5 z6 z7 z8 l7 hl7).mono ?_
     rintro e w3 ⟨rfl,b3⟩;have zX:=XX.out.lt;have R3:=RR.out.below b3 RR.out.lt;have A3:=XX.out.below b3 zX;have B3:=Below.andThen BB.out b3;clear x0 x1 x2 x3 x4 x5 x6 x7 x8 XX RR BB b3 hcp zX;have R4:=aa (R3.alloc (.cells #[.int .i64 z1,.int .i64 z2,.int .i64 z3,.int .i64 z4,.int .i64 z5,.int .i64 z6,.int .i64 l7,.int .i64 z8] 71));have A4:=aa (A3.alloc (.cells #[.int .i64 z1,.int .i64 z2,.int .i64 z3,.int .i64 z4,.int .i64 z5,.int .i64 z6,.int .i64 l7,.int .i64 z8] 71));have X4:=aa (Box.new w3 71 #[.int .i64 z1,.int .i64 z2,.int .i64 z3,.int .i64 z4,.int .i64 z5,.int .i64 z6,.int .i64 l7,.int .i64 z8]);have B4:=aa (B3.alloc B3.size (.cells #[.int .i64 z1,.int .i64 z2,.int .i64 z3,.int .i64 z4,.int .i64 z5,.int .i64 z6,.int .i64 l7,.int .i64 z8] 71));clear R3 A3 B3;obtain ⟨x0,x1,x2,x3,x4,x5,x6,x7⟩:=X4.out.cells8;have ya:=A4.out.cell 0;go_wp2_with fail
     generalize w3.alloc (.cells #[.int .i64 z1,.int .i64 z2,.int .i64 z3,.int .i64 z4,.int .i64 z5,.int .i64 z6,.int .i64 l7,.int .i64 z8] 71)=w4 at R4 A4 X4 B4 x0 x1 x2 x3 x4 x5 x6 x7 ya ⊢;refine (eC _ ⟨z1,z2,z3,z4,z5,z6,l7,z8⟩).mono ?_
     rintro e w5 ⟨rfl,b5⟩;have R5:=R4.out.below b5 R4.out.lt;have B5:=aa (Below.andThen B4.out b5);clear x0 x1 x2 x3 x4 x5 x6 x7 R4 X4 B4 A4 b5;rw [hs'.out];obtain ⟨p0,p1,p2,p3,p4,p5,p6,p7⟩:=R5.cells8;have fz:=R5.frozen;have FB:=aa (Below.andBut B5.out (ec w5 w.heap.size (.int .i64 0) (.int .i64 0) (.int .i64 0) (.int .i64 0) (.int .i64 0) (.int .i64 0) (.int .i64 0) (.int .i64 0)) (Nat.le_refl _));unfold lA at FB;go_wp2
     refine bodyPost_ret (v:=.tuple #[.agg #[.int .i64 0,.int .i64 0,.int .i64 0,.int .i64 0,.int .i64 0,.int .i64 0,.int .i64 0,.int .i64 0],.bool false]) (by simp [results,Tryz.results123,go_sem,p0,p1,p2,p3,p4,p5,p6,p7]) rfl ?_
     exact ⟨rfl,FB.out⟩
   have hB:=uA (z1:=z1) (z2:=z2) (z3:=z3) (z4:=z4) (z5:=z5) (z6:=z6) (z7:=z7) (z8:=z8) h0;rw [nD hB,hB];clear hB;go_enter Tryz.func123,Tryz.ntmps123
   go_wp2_with fail
   refine (fH _ _ z1 z2 z3 z4 z5 z6 z7 z8 l7 hl7).mono ?_
   rintro e w3 ⟨rfl,b3⟩;have zX:=XX.out.lt;have R3:=RR.out.below b3 RR.out.lt;have A3:=XX.out.below b3 zX;have B3:=Below.andThen BB.out b3;have zA:=A3.lt;clear x0 x1 x2 x3 x4 x5 x6 x7 x8 XX RR BB b3 hcp zX;obtain ⟨p0,p1,p2,p3,p4,p5,p6,p7⟩:=R3.cells8;have R4:=R3.alloc (.cells #[.int .i64 z1,.int .i64 z2,.int .i64 z3,.int .i64 z4,.int .i64 z5,.int .i64 z6,.int .i64 l7,.int .i64 z8] 71);obtain ⟨r0,r1,r2,r3,r4,r5,r6,r7⟩:=R4.cells8;have fz:=R4.frozen;have ya:=A3.cell 0;have FB4:=aa (Below.andBut (B3.alloc B3.size (.cells #[.int .i64 z1,.int .i64 z2,.int .i64 z3,.int .i64 z4,.int .i64 z5,.int .i64 z6,.int .i64 l7,.int .i64 z8] 71)) (ec _ w.heap.size (.int .i64 0) (.int .i64 0) (.int .i64 0) (.int .i64 0) (.int .i64 0) (.int .i64 0) (.int .i64 0) (.int .i64 0)) (Nat.le_refl _));unfold lA at FB4;clear B3 R3 R4 A3 p0 p1 p2 p3 p4 p5 p6 p7;go_wp2
   refine bodyPost_ret (v:=.tuple #[.agg #[.int .i64 0,.int .i64 0,.int .i64 0,.int .i64 0,.int .i64 0,.int .i64 0,.int .i64 0,.int .i64 0],.bool false]) (by simp [results,Tryz.results123,go_sem,r0,r1,r2,r3,r4,r5,r6,r7]) rfl ?_
   exact ⟨rfl,FB4.out⟩
 have hB:iX zs=false:=vx (by omega);rw [nD hB,hB];clear hB;have h9':¬(n:Int)=9:=by omega
 go_enter Tryz.func123,Tryz.ntmps123
 go_wp2
 refine bodyPost_ret (v:=.tuple #[.agg #[.int .i64 0,.int .i64 0,.int .i64 0,.int .i64 0,.int .i64 0,.int .i64 0,.int .i64 0,.int .i64 0],.bool false]) (by simp [results,Tryz.results123,go_sem]) rfl ?_
 exact ⟨rfl,hA⟩
def iy (rk:Bool) (ps:List Int) (id p:Int):Bool:=rk&&(iX ps&&(decide ((bj ps).id=id)&&decide ((bj ps).gen % 2=p)))
def atD (rk:Bool) (ps:List Int) (id p:Int):Sup:=if iy rk ps id p=true then bj ps else oV
theorem ne {rk:Bool} {ps:List Int} {id p:Int} (h:iy rk ps id p=false):Ending.returned (.tuple #[.agg #[.int .i64 0,.int .i64 0,.int .i64 0,.int .i64 0,.int .i64 0,.int .i64 0,.int .i64 0,.int .i64 0],.bool false])=.returned (.tuple #[.agg #[.int .i64 (atD rk ps id p).id,.int .i64 (atD rk ps id p).gen,.int .i64 (atD rk ps id p).role,.int .i64 (atD rk ps id p).n,.int .i64 (atD rk ps id p).s,.int .i64 (atD rk ps id p).tail,.int .i64 (atD rk ps id p).lost,.int .i64 (atD rk ps id p).xW],.bool (iy rk ps id p)]):=by
 have e:atD rk ps id p=oV:=by unfold atD;rw [if_neg (by simp [h])]
 rw [e,h];rfl
theorem xh {rk:Bool} {ps:List Int} {id p:Int} (h:iy rk ps id p=true):Ending.returned (.tuple #[.agg #[.int .i64 (bj ps).id,.int .i64 (bj ps).gen,.int .i64 (bj ps).role,.int .i64 (bj ps).n,.int .i64 (bj ps).s,.int .i64 (bj ps).tail,.int .i64 (bj ps).lost,.int .i64 (bj ps).xW],.bool true])=.returned (.tuple #[.agg #[.int .i64 (atD rk ps id p).id,.int .i64 (atD rk ps id p).gen,.int .i64 (atD rk ps id p).role,.int .i64 (atD rk ps id p).n,.int .i64 (atD rk ps id p).s,.int .i64 (atD rk ps id p).tail,.int .i64 (atD rk ps id p).lost,.int .i64 (atD rk ps id p).xW],.bool (iy rk ps id p)]):=by
 have e:atD rk ps id p=bj ps:=by unfold atD;rw [if_pos h]
 rw [e,h]
theorem vC {ps:List Int} (h:iX ps=true):0<=(bj ps).gen/\(bj ps).gen<=60000:=by
 rw [tO h];unfold iX at h;simp only [Bool.and_eq_true] at h
 have:=(eV.1 h.2.2).2.2.2.2.1;exact this
theorem rB {w:World} {B:Nat} {T:TypeId} {x0 x1 x2 x3 x4 x5 x6 x7:Value} (h:Box w B T #[x0,x1,x2,x3,x4,x5,x6,x7]) (v0 v1 v2 v3 v4 v5 v6 v7:Value):Box (lA w B v0 v1 v2 v3 v4 v5 v6 v7) B T #[v0,v1,v2,v3,v4,v5,v6,v7]:=by
 unfold lA;have:=(((((((h.set 0 v0).set 1 v1).set 2 v2).set 3 v3).set 4 v4).set 5 v5).set 6 v6).set 7 v7;simpa using this
theorem uB {ss:List (List Int)} {cs:List (Int×List Int)} {f:Bool} {bs:List Int} {n:Int} (hw:aM (ss,cs,f,bs)<=2097152):(bp ss cs f bs n).length<=2097152:=by
 have hw0:cA ss<=2097152:=by unfold aM at hw;simp only at hw;omega
 have hw1:aX cs<=2097152:=by unfold aM at hw;simp only at hw;omega
 unfold bp;split
 . cases h:cB cs n with
   | some zs=>exact nn hw1 h
   | none=>
    unfold iw;rw [Option.getD_none,List.getD_eq_getElem?_getD];cases h2:ss[n.toNat]? with
    | none=>simp
    | some x=>exact Nat.le_trans (eZ h2) hw0
 simp
theorem rE (w:World) (E:TypeId) (a0 a1 a3:Option Addr) (n0 c0 n1 c1 n3 c3:Nat) (ss:List (List Int)) (cs:List (Int×List Int)) (f:Bool) (bs:List Int) (id p:Int) (h0:aU.Rd w [.slice a0 n0 c0] ss) (h1:(aW E).Rd w [.slice a1 n1 c1] cs) (h3:aD.Rd w [.slice a3 n3 c3] bs) (hw:aM (ss,cs,f,bs)<=2097152):
 Calls Tryz.prog 101 #[.agg #[.slice a0 n0 c0,.slice a1 n1 c1,.bool f,.slice a3 n3 c3],.int .i64 p,.int .i64 id] w fun e w'=>e=.returned (.tuple #[.agg #[.int .i64 (atD (aV ss cs f bs p) (bp ss cs f bs p) id p).id,.int .i64 (atD (aV ss cs f bs p) (bp ss cs f bs p) id p).gen,.int .i64 (atD (aV ss cs f bs p) (bp ss cs f bs p) id p).role,.int .i64 (atD (aV ss cs f bs p) (bp ss cs f bs p) id p).n,.int .i64 (atD (aV ss cs f bs p) (bp ss cs f bs p) id p).s,.int .i64 (atD (aV ss cs f bs p) (bp ss cs f bs p) id p).tail,.int .i64 (atD (aV ss cs f bs p) (bp ss cs f bs p) id p).lost,.int .i64 (atD (aV ss cs f bs p) (bp ss cs f bs p) id p).xW],.bool (iy (aV ss cs f bs p) (bp ss cs f bs p) id p)])/\Below w.heap.size w w':=by
 have hA:=(af w (.cells #[.slice a0 n0 c0,.slice a1 n1 c1,.bool f,.slice a3 n3 c3] 55)).alloc (by simp) (.cells #[.int .i64 0,.int .i64 0,.int .i64 0,.int .i64 0,.int .i64 0,.int .i64 0,.int .i64 0,.int .i64 0] 71);have M0:=(Box.new w 55 #[.slice a0 n0 c0,.slice a1 n1 c1,.bool f,.slice a3 n3 c3]).alloc (.cells #[.int .i64 0,.int .i64 0,.int .i64 0,.int .i64 0,.int .i64 0,.int .i64 0,.int .i64 0,.int .i64 0] 71);have R0:=Box.new (w.alloc (.cells #[.slice a0 n0 c0,.slice a1 n1 c1,.bool f,.slice a3 n3 c3] 55)) 71 #[.int .i64 0,.int .i64 0,.int .i64 0,.int .i64 0,.int .i64 0,.int .i64 0,.int .i64 0,.int .i64 0];rw [World.size_alloc] at R0;obtain ⟨q0,q1,q2,q3⟩:=M0.cells4;go_enter Tryz.func101,Tryz.ntmps101
 go_wp2_with fail
 generalize (w.alloc (.cells #[.slice a0 n0 c0,.slice a1 n1 c1,.bool f,.slice a3 n3 c3] 55)).alloc (.cells #[.int .i64 0,.int .i64 0,.int .i64 0,.int .i64 0,.int .i64 0,.int .i64 0,.int .i64 0,.int .i64 0] 71)=W at hA M0 R0 q0 q1 q2 q3 ⊢;refine (iU _ E _ _ _ _ _ _ _ _ _ ss cs f bs p (h0.below hA) (h1.below hA) (h3.below hA) hw).mono ?_
 rintro e w1 ⟨al,ll,cl,rfl,o1,b1⟩;have hlr:=uB (n:=p) hw;generalize hP:bp ss cs f bs p=ps at o1 hlr ⊢;generalize hK:aV ss cs f bs p=rk;have HP:=aa hP;have HK:=aa hK;clear hP hK;obtain ⟨rr,rl,_,_⟩:=aR o1.rd;have R1:=R0.below b1 R0.lt;have B1:=Below.andThen hA b1;clear q0 q1 q2 q3 M0 R0 hA o1 b1;go_wp2_with fail
 refine (lC _ _ _ _ ps rr rl (by omega)).mono ?_
 rintro e w2 ⟨rfl,b2⟩;have R2:=R1.below b2 R1.lt;have B2:=Below.andThen B1 b2;clear R1 B1 b2 rr;have R4:=R2.alloc (.cells #[.int .i64 (bj ps).id,.int .i64 (bj ps).gen,.int .i64 (bj ps).role,.int .i64 (bj ps).n,.int .i64 (bj ps).s,.int .i64 (bj ps).tail,.int .i64 (bj ps).lost,.int .i64 (bj ps).xW] 71);have X4:=Box.new w2 71 #[.int .i64 (bj ps).id,.int .i64 (bj ps).gen,.int .i64 (bj ps).role,.int .i64 (bj ps).n,.int .i64 (bj ps).s,.int .i64 (bj ps).tail,.int .i64 (bj ps).lost,.int .i64 (bj ps).xW];obtain ⟨r0,r1,r2,r3,r4,r5,r6,r7⟩:=R4.cells8;obtain ⟨x0,x1,x2,x3,x4,x5,x6,x7⟩:=X4.cells8;have fz:=R4.frozen;have FZ:=aa (Below.andBut (B2.alloc B2.size (.cells #[.int .i64 (bj ps).id,.int .i64 (bj ps).gen,.int .i64 (bj ps).role,.int .i64 (bj ps).n,.int .i64 (bj ps).s,.int .i64 (bj ps).tail,.int .i64 (bj ps).lost,.int .i64 (bj ps).xW] 71)) (ec _ (w.heap.size+1) (.int .i64 0) (.int .i64 0) (.int .i64 0) (.int .i64 0) (.int .i64 0) (.int .i64 0) (.int .i64 0) (.int .i64 0)) (by omega));have FS:=aa (Below.andBut (B2.alloc B2.size (.cells #[.int .i64 (bj ps).id,.int .i64 (bj ps).gen,.int .i64 (bj ps).role,.int .i64 (bj ps).n,.int .i64 (bj ps).s,.int .i64 (bj ps).tail,.int .i64 (bj ps).lost,.int .i64 (bj ps).xW] 71)) (ec _ (w.heap.size+1) (.int .i64 (bj ps).id) (.int .i64 (bj ps).gen) (.int .i64 (bj ps).role) (.int .i64 (bj ps).n) (.int .i64 (bj ps).s) (.int .i64 (bj ps).tail) (.int .i64 (bj ps).lost) (.int .i64 (bj ps).xW)) (by omega));unfold lA at FZ FS;clear R2 R4 X4 B2;by_cases hk:rk=true
 . subst hk
   by_cases hg:iX ps=true
   . obtain ⟨g0,g1⟩:=vC hg
     by_cases hi:(bj ps).id=id
     . subst hi
       go_wp2_with fail
       refine (iY _ _ g0).mono ?_
       rintro e w3 ⟨rfl,rfl⟩;by_cases hp:(bj ps).gen % 2=p
       . subst hp
         have hok:iy true ps (bj ps).id ((bj ps).gen % 2)=true:=by unfold iy;simp [hg]
         have HE:=aa (xh hok);clear hok FZ;go_wp2
         refine bodyPost_ret (v:=.tuple #[.agg #[.int .i64 (bj ps).id,.int .i64 (bj ps).gen,.int .i64 (bj ps).role,.int .i64 (bj ps).n,.int .i64 (bj ps).s,.int .i64 (bj ps).tail,.int .i64 (bj ps).lost,.int .i64 (bj ps).xW],.bool true]) (by simp [results,Tryz.results101,go_sem,r0,r1,r2,r3,r4,r5,r6,r7]) rfl ?_
         exact ⟨by rw [HP.out,HK.out];exact HE.out,FS.out⟩
       have hok:iy true ps (bj ps).id p=false:=by unfold iy;simp [hp]
       have HE:=aa (ne hok);clear hok FS;go_wp2
       refine bodyPost_ret (v:=.tuple #[.agg #[.int .i64 0,.int .i64 0,.int .i64 0,.int .i64 0,.int .i64 0,.int .i64 0,.int .i64 0,.int .i64 0],.bool false]) (by simp [results,Tryz.results101,go_sem,r0,r1,r2,r3,r4,r5,r6,r7]) rfl ?_
       exact ⟨by rw [HP.out,HK.out];exact HE.out,FZ.out⟩
     have hok:iy true ps id p=false:=by unfold iy;simp [hi]
     have HE:=aa (ne hok);clear hok FS;go_wp2
     refine bodyPost_ret (v:=.tuple #[.agg #[.int .i64 0,.int .i64 0,.int .i64 0,.int .i64 0,.int .i64 0,.int .i64 0,.int .i64 0,.int .i64 0],.bool false]) (by simp [results,Tryz.results101,go_sem,r0,r1,r2,r3,r4,r5,r6,r7]) rfl ?_
     exact ⟨by rw [HP.out,HK.out];exact HE.out,FZ.out⟩
   have hg':iX ps=false:=by simpa using hg
   have hok:iy true ps id p=false:=by unfold iy;rw [hg'];rfl
   have HE:=aa (ne hok);clear hok FS;go_wp2
   refine bodyPost_ret (v:=.tuple #[.agg #[.int .i64 0,.int .i64 0,.int .i64 0,.int .i64 0,.int .i64 0,.int .i64 0,.int .i64 0,.int .i64 0],.bool false]) (by simp [results,Tryz.results101,go_sem,r0,r1,r2,r3,r4,r5,r6,r7]) rfl ?_
   exact ⟨by rw [HP.out,HK.out];exact HE.out,FZ.out⟩
 have hk':rk=false:=by simpa using hk
 subst hk';have hok:iy false ps id p=false:=rfl;have HE:=aa (ne hok);clear hok FS;go_wp2
 refine bodyPost_ret (v:=.tuple #[.agg #[.int .i64 0,.int .i64 0,.int .i64 0,.int .i64 0,.int .i64 0,.int .i64 0,.int .i64 0,.int .i64 0],.bool false]) (by simp [results,Tryz.results101,go_sem,r0,r1,r2,r3,r4,r5,r6,r7]) rfl ?_
 exact ⟨by rw [HP.out,HK.out];exact HE.out,FZ.out⟩
theorem But.cell {lo hi:Nat} {w w':World} (h:But lo hi w w') {p:Addr} (h1:p.block<w.heap.size) (h2:p.block<lo∨hi<=p.block):w'.cell? p=w.cell? p:=World.cell?_of_block (w:=w) (h.block _ h1 h2)
end Go.Proofs.YtgjomldcnjjpaaaGreat

/-
 The walks of both DiskOf, and of the specification's Blocks, ParityOf, StripeOf, IndexOf and BlockAt. No condition.
-/
import Derived.Test.YtgjomldcnjjpaaaGreatRowArrsSq4
import Derived.Test.YtgjomldcnjjpaaaGreatRowArrsSq3

set_option maxRecDepth 100000
set_option maxHeartbeats 8000000
set_option linter.unusedSimpArgs false

namespace Go.Proofs.YtgjomldcnjjpaaaGreat
open Go.RowKit

theorem bK.but {w w':World} {B l h:Nat} {T:TypeId} {n s:Int} (hx:bK w B T n s) (hb:But l h w w') (hB:B<l∨h<=B):bK w' B T n s:=(hb.block B hx.lt hB).trans hx
theorem bK.alloc {w:World} {B:Nat} {T:TypeId} {n s:Int} (h:bK w B T n s) (o:Obj):bK (w.alloc o) B T n s:=h.below (af w o) h.lt
theorem bK.set0 {w:World} {B:Nat} {T:TypeId} {n s:Int} (h:bK w B T n s) (a:Int):bK (w.setCell ⟨B,0,none⟩ (.int .i64 a)) B T a s:=heap_setCell_same w B 0 _ _ _ h
theorem bK.set1 {w:World} {B:Nat} {T:TypeId} {n s:Int} (h:bK w B T n s) (a:Int):bK (w.setCell ⟨B,1,none⟩ (.int .i64 a)) B T n a:=heap_setCell_same w B 1 _ _ _ h
theorem iS {N B:Nat} {w w':World} (h:Below N w w') (hB:N<=B) (u v:Value):Below N w ((w'.setCell ⟨B,0,none⟩ u).setCell ⟨B,1,none⟩ v):=(h.setCell (p:=⟨B,0,none⟩) hB u).setCell (p:=⟨B,1,none⟩) hB v
theorem br.drew {w:World} {g lb cb:Nat} {a:Option Addr} {zs:List Int} (h:br w g a lb cb zs):br w.drew g a lb cb zs:=⟨h.cur,h.len,h.reads.draw,h.bytes,h.few,h.ahead⟩
theorem vl {w:World} {g lb cb:Nat} {a:Option Addr} {zs:List Int} (h:br w g a lb cb zs):
 Calls Tryz.prog 55 #[.pointer (some ⟨g,0,none⟩)] w fun e w'=>∃n s:Int,e=.returned (.agg #[.int .i64 n,.int .i64 s])/\bL n s=true/\br w' g a lb cb zs/\But g (g+1) w w':=by
 have hA:=af w (.cells #[.int .i64 0,.int .i64 0] 25);have X:=bK.new w 25 0 0;have D0:=h.alloc (.cells #[.int .i64 0,.int .i64 0] 25);have zA:=X.lt;have hg:=h.lt;go_enter Tryz.func55,Tryz.ntmps55
 go_wp2_with fail
 refine (bX D0 3 (by omega) (by omega)).mono ?_
 rintro e w1 ⟨x,rfl,hx0,hx1,D1,b1⟩;have X1:=X.but b1 (.inr (by omega));have B1:=(But.of_below (lo:=g) (hi:=g+1) hA).trans b1;clear X b1 hA D0;go_wp2_with fail
 refine (bX D1 8 (by omega) (by omega)).mono ?_
 rintro e w2 ⟨y,rfl,hy0,hy1,D2,b2⟩;have X2:=X1.but b2 (.inr (by omega));have B2:=B1.trans b2;clear X1 b2 B1 D1;obtain ⟨j0,j1⟩:=X2.cells;have f0:=X2.frozen 0;have f1:=X2.frozen 1;have Z:=X2.set2 (3+x) (1+y);obtain ⟨q0,q1⟩:=Z.cells;have DD:=aa (D2.lower (iS (Below.refl w.heap.size w2) (Nat.le_refl _) (.int .i64 (3+x)) (.int .i64 (1+y))) hg);have BB:=aa (B2.thenBelow (iS (Below.refl w.heap.size w2) (Nat.le_refl _) (.int .i64 (3+x)) (.int .i64 (1+y))));go_wp2
 refine bodyPost_ret (v:=.agg #[.int .i64 (3+x),.int .i64 (1+y)]) (by simp [results,Tryz.results55,go_sem,q0,q1]) rfl ?_
 exact ⟨_,_,rfl,aB.2 (by omega),DD.out,BB.out⟩
theorem qm {w:World} {g lb cb:Nat} {a:Option Addr} {zs:List Int} (h:br w g a lb cb zs):
 Calls Tryz.prog 23 #[.pointer (some ⟨g,0,none⟩)] w fun e w'=>∃n s:Int,e=.returned (.agg #[.int .i64 n,.int .i64 s])/\(-64<=n/\n<=64)/\br w' g a lb cb zs/\But g (g+1) w w':=by
 have hA:=af w (.cells #[.int .i64 0,.int .i64 0] 25);have X:=bK.new w 25 0 0;have D0:=h.alloc (.cells #[.int .i64 0,.int .i64 0] 25);have zA:=X.lt;have hg:=h.lt;go_enter Tryz.func23,Tryz.ntmps23
 go_wp2_with fail
 refine (vl D0).mono ?_
 rintro e w1 ⟨n,s,rfl,hgeo,D1,b1⟩;have HNB:Hid (-64<=n/\n<=64):=by have:=aB.1 hgeo;unfold Hid;omega
 clear hgeo;have X1:=X.but b1 (.inr (by omega));have B1:=(But.of_below (lo:=g) (hi:=g+1) hA).trans b1;have z1:=X1.lt;clear X b1 hA D0 zA;have G2:=bK.new w1 25 n s;have X2:=X1.alloc (.cells #[.int .i64 n,.int .i64 s] 25);have D2:=D1.alloc (.cells #[.int .i64 n,.int .i64 s] 25);have B2:=B1.alloc (.cells #[.int .i64 n,.int .i64 s] 25);have z2:=G2.lt;clear X1 D1 B1;go_wp2_with fail
 generalize w1.alloc (.cells #[.int .i64 n,.int .i64 s] 25)=W2 at G2 X2 D2 B2 z2 ⊢;refine (bX D2 8 (by omega) (by omega)).mono ?_
 rintro e w3 ⟨x,rfl,hx0,hx1,D3,b3⟩;have G3:=G2.but b3 (.inr (by omega));have X3:=X2.but b3 (.inr (by omega));have B3:=B2.trans b3;clear G2 X2 D2 B2 b3;have key:∀(w4:World) (n' s':Int),bK w4 w1.heap.size 25 n' s'->bK w4 w.heap.size 25 0 0->br w4 g a lb cb zs->But g (g+1) w w4->(-64<=n'/\n'<=64) ->
  ∃n s:Int,(Ending.returned (.agg #[.int .i64 n',.int .i64 s'])=.returned (.agg #[.int .i64 n,.int .i64 s]))/\(-64<=n/\n<=64)/\br ((w4.setCell ⟨w.heap.size,0,none⟩ (.int .i64 n')).setCell ⟨w.heap.size,1,none⟩ (.int .i64 s')) g a lb cb zs/\But g (g+1) w ((w4.setCell ⟨w.heap.size,0,none⟩ (.int .i64 n')).setCell ⟨w.heap.size,1,none⟩ (.int .i64 s')):=
  fun w4 n' s' _ _ D B hB=>⟨n',s',rfl,hB,D.lower (iS (Below.refl w.heap.size w4) (Nat.le_refl _) _ _) hg,B.thenBelow (iS (Below.refl w.heap.size w4) (Nat.le_refl _) _ _)⟩
 by_cases h0:x=0
 . subst h0
   have HR:=aa (aJ.new .i64 w3 3 [0,2,6,-1] _ rfl);go_wp2_with fail
   refine (lg (D3.alloc _) _ 4 _ [0,2,6,-1] rfl HR.out ?hx0 (by omega) (by omega)).mono ?_
   case hx0=>intro x hx;simp at hx;subst hx;exact D3.lt
   rintro e w4 ⟨y,rfl,hy,D4,b4⟩;have HY:Hid (-64<=y/\y<=64):=by simp at hy;unfold Hid;omega
   clear hy;have G4:=(G3.alloc _).but b4 (.inr (by omega));have X4:=(X3.alloc _).but b4 (.inr (by omega));have B4:=(B3.alloc _).trans b4;have z4:=G4.lt;clear G3 X3 D3 B3 b4;obtain ⟨g0,g1⟩:=G4.cells;have fg:=G4.frozen 0;have hne:w.heap.size≠w1.heap.size:=by omega
   have G5:=G4.set0 y;have X5:bK (w4.setCell ⟨w1.heap.size,0,none⟩ (.int .i64 y)) w.heap.size 25 0 0:=X4.but (But.setCell (Nat.le_refl _) (Nat.lt_succ_self _) _) (.inl (by omega));have D5:=D4.lower ((Below.refl w1.heap.size w4).setCell (p:=⟨w1.heap.size,0,none⟩) (Nat.le_refl _) (.int .i64 y)) (by omega);have B5:=B4.thenBelow (((Below.refl w1.heap.size w4).setCell (p:=⟨w1.heap.size,0,none⟩) (Nat.le_refl _) (.int .i64 y)).mono (by omega));have K:=aa (key _ y s G5 X5 D5 B5 HY.out);obtain ⟨x0,x1⟩:=X5.cells;obtain ⟨q0,q1⟩:=(X5.set2 y s).cells;obtain ⟨r0,r1⟩:=G5.cells;have f0:=X5.frozen 0;have f1:=X5.frozen 1;clear G4 X4 D4 B4 G5 X5 D5 B5 key;go_wp2
   refine bodyPost_ret (v:=.agg #[.int .i64 y,.int .i64 s]) (by simp [results,Tryz.results23,go_sem,q0,q1]) rfl ?_
   exact K.out
 by_cases h1:x=1
 . subst h1
   have HR:=aa (aJ.new .i64 w3 3 [0,9,-1] _ rfl);go_wp2_with fail
   refine (lg (D3.alloc _) _ 3 _ [0,9,-1] rfl HR.out ?hx1 (by omega) (by omega)).mono ?_
   case hx1=>intro x hx;simp at hx;subst hx;exact D3.lt
   rintro e w4 ⟨y,rfl,_,D4,b4⟩;have G4:=(G3.alloc _).but b4 (.inr (by omega));have X4:=(X3.alloc _).but b4 (.inr (by omega));have B4:=(B3.alloc _).trans b4;have z4:=G4.lt;clear G3 X3 D3 B3 b4;obtain ⟨g0,g1⟩:=G4.cells;have fg:=G4.frozen 1;have hne:w.heap.size≠w1.heap.size:=by omega
   have G5:=G4.set1 y;have X5:bK (w4.setCell ⟨w1.heap.size,1,none⟩ (.int .i64 y)) w.heap.size 25 0 0:=X4.but (But.setCell (Nat.le_refl _) (Nat.lt_succ_self _) _) (.inl (by omega));have D5:=D4.lower ((Below.refl w1.heap.size w4).setCell (p:=⟨w1.heap.size,1,none⟩) (Nat.le_refl _) (.int .i64 y)) (by omega);have B5:=B4.thenBelow (((Below.refl w1.heap.size w4).setCell (p:=⟨w1.heap.size,1,none⟩) (Nat.le_refl _) (.int .i64 y)).mono (by omega));have K:=aa (key _ n y G5 X5 D5 B5 HNB.out);obtain ⟨x0,x1⟩:=X5.cells;obtain ⟨q0,q1⟩:=(X5.set2 n y).cells;obtain ⟨r0,r1⟩:=G5.cells;have f0:=X5.frozen 0;have f1:=X5.frozen 1;clear G4 X4 D4 B4 G5 X5 D5 B5 key;go_wp2
   refine bodyPost_ret (v:=.agg #[.int .i64 n,.int .i64 y]) (by simp [results,Tryz.results23,go_sem,q0,q1]) rfl ?_
   exact K.out
 have e0:(x==0)=false:=by simpa using h0
 have e1:(x==1)=false:=by simpa using h1
 obtain ⟨g0,g1⟩:=G3.cells;obtain ⟨x0,x1⟩:=X3.cells;have f0:=X3.frozen 0;have f1:=X3.frozen 1;obtain ⟨q0,q1⟩:=(X3.set2 n s).cells;have K:=aa (key w3 n s G3 X3 D3 B3 HNB.out);clear G3 X3 D3 B3 key;go_wp2
 refine bodyPost_ret (v:=.agg #[.int .i64 n,.int .i64 s]) (by simp [results,Tryz.results23,go_sem,q0,q1]) rfl ?_
 exact K.out
theorem ra (a b:Int) (w:World):Sem.run Tryz.prog (Instr.field 125 (.agg #[.int .i64 a,.int .i64 b]) 0) w=.ok (.int .i64 a) w:=rfl
theorem sF (a b:Int) (w:World):Sem.run Tryz.prog (Instr.field 125 (.agg #[.int .i64 a,.int .i64 b]) 1) w=.ok (.int .i64 b) w:=rfl
theorem lX (w:World) (n s b:Int):Calls Tryz.prog 76 #[.agg #[.int .i64 n,.int .i64 s],.int .i64 b] w fun e w'=>e=.returned (.int .i64 (aO n s b))/\Below w.heap.size w w':=by
 have hA:=af w (.cells #[.int .i64 n,.int .i64 s] 25);obtain ⟨k0,k1⟩:=(bK.new w 25 n s).cells;go_enter Tryz.func76,Tryz.ntmps76
 go_wp2_with fail
 refine (jf _ _ _ _).mono ?_
 rintro e w1 ⟨rfl,b1⟩;have hf:=ra (aO n s b) (ch n s b) w1;go_wp2
 go_ret
 exact ⟨rfl,Below.andThen hA b1⟩
theorem mV (w:World) (n s b:Int):Calls Tryz.prog 79 #[.agg #[.int .i64 n,.int .i64 s],.int .i64 b] w fun e w'=>e=.returned (.int .i64 (ch n s b))/\Below w.heap.size w w':=by
 have hA:=af w (.cells #[.int .i64 n,.int .i64 s] 25);obtain ⟨k0,k1⟩:=(bK.new w 25 n s).cells;go_enter Tryz.func79,Tryz.ntmps79
 go_wp2_with fail
 refine (jf _ _ _ _).mono ?_
 rintro e w1 ⟨rfl,b1⟩;have hf:=sF (aO n s b) (ch n s b) w1;go_wp2
 go_ret
 exact ⟨rfl,Below.andThen hA b1⟩
theorem oQ {n s t i:Int}:gy n s t i=true ↔ ∃b,bU n s b=true/\aO n s b=t/\ch n s b=i:=by
 constructor
 . intro h
   unfold gy at h;rw [Bool.and_eq_true,ee,aG] at h;obtain ⟨⟨hg,h1,h2⟩,h3,h4⟩:=h;obtain ⟨g1,g2,g3,g4⟩:=aB.1 hg;have hb:bU n s (t*(n-1)+i)=true:=by
    rw [eR,fD hg];have:n=3∨n=4∨n=5:=by omega
    rcases this with rfl|rfl|rfl<;>omega
   refine ⟨t*(n-1)+i,hb,?_,?_⟩
   . unfold aO
     rw [if_pos hb];have:n=3∨n=4∨n=5:=by omega
     rcases this with rfl|rfl|rfl<;>omega
   unfold ch;rw [if_pos hb];have:n=3∨n=4∨n=5:=by omega
   rcases this with rfl|rfl|rfl<;>omega
 rintro ⟨b,hb,rfl,rfl⟩;have hg:=jP hb;have hb':=eR.1 hb;rw [fD hg] at hb';obtain ⟨g1,g2,g3,g4⟩:=aB.1 hg;unfold gy;rw [Bool.and_eq_true,ee,aG];unfold aO ch;rw [if_pos hb,if_pos hb];have:n=3∨n=4∨n=5:=by omega
 rcases this with rfl|rfl|rfl<;>exact ⟨⟨hg,by omega⟩,by omega⟩
theorem wZ {n s b:Int} (hb:bU n s b=true):gE n s (aO n s b) (ch n s b)=b:=by
 have h:=oQ.2 ⟨b,hb,rfl,rfl⟩;unfold gE;rw [if_pos h];obtain ⟨g1,g2,g3,g4⟩:=aB.1 (jP hb);have hb':=eR.1 hb;unfold aO ch;rw [if_pos hb,if_pos hb];have:n=3∨n=4∨n=5:=by omega
 rcases this with rfl|rfl|rfl<;>omega
theorem mW (w:World) (n s t i:Int):Calls Tryz.prog 145 #[.agg #[.int .i64 n,.int .i64 s],.int .i64 t,.int .i64 i] w fun e w'=>e=.returned (.int .i64 (gE n s t i))/\Below w.heap.size w w':=by
 have hA:Below w.heap.size w ((w.alloc (.cells #[.int .i64 n,.int .i64 s] 25)).alloc (.cells #[.int .i64 t,.int .i64 i] 125)):=(af w _).alloc (by simp) _;have X:bK ((w.alloc (.cells #[.int .i64 n,.int .i64 s] 25)).alloc (.cells #[.int .i64 t,.int .i64 i] 125)) w.heap.size 25 n s:=(bK.new w 25 n s).below (af _ _) (by simp);have Y:bK ((w.alloc (.cells #[.int .i64 n,.int .i64 s] 25)).alloc (.cells #[.int .i64 t,.int .i64 i] 125)) (w.heap.size+1) 125 t i:=by
  have:=bK.new (w.alloc (.cells #[.int .i64 n,.int .i64 s] 25)) 125 t i;simpa using this
 obtain ⟨k0,k1⟩:=X.cells;obtain ⟨x0,x1⟩:=(bK.new w 25 n s).cells;go_enter Tryz.func145,Tryz.ntmps145
 go_wp2_with fail
 refine (fk _ _ _).mono ?_
 rintro e w1 ⟨rfl,b1⟩;have hz:w.heap.size+1<((w.alloc (.cells #[.int .i64 n,.int .i64 s] 25)).alloc (.cells #[.int .i64 t,.int .i64 i] 125)).heap.size:=by simp
 have X1:=X.below b1 (by omega);have Y1:=Y.below b1 hz;have B1:=hA.trans (b1.mono hA.size);have hr:=dP n s;obtain ⟨nb,hnb⟩:=Int.eq_ofNat_of_zero_le hr.1;have HNB:=aa hnb;rw [hnb] at hr ⊢;clear k0 k1 x0 x1 X Y hA b1 hz hnb;go_wp2_with fail
 go_loopw [14] (fun c wr=>∃j:Nat,j<=nb/\c=.int .i64 j/\(∀k:Nat,k<j->¬(aO n s k=t/\ch n s k=i))/\bK wr w.heap.size 25 n s/\bK wr (w.heap.size+1) 125 t i/\Below w.heap.size w wr) (fun c _=>nb-(intOf c).toNat)
 case atStart=>exact ⟨0,Nat.zero_le _,rfl,by omega,X1,Y1,B1⟩
 obtain ⟨j,hj,rfl,hk,X2,Y2,B2⟩:=hrel;have HK:=aa hk;clear hk X1 Y1 B1;by_cases hlt:j<nb
 . have hb:bU n s j=true:=eR.2 ⟨by omega,by rw [HNB.out];omega⟩
   have HBA:=aa (wZ hb);obtain ⟨k0,k1⟩:=X2.cells;obtain ⟨j0,j1⟩:=Y2.cells;generalize hS:aO n s j=S at HBA HK;generalize hI:ch n s j=I at HBA HK;have HP:∀W:World,Calls Tryz.prog 102 #[.agg #[.int .i64 n,.int .i64 s],.int .i64 (j:Int)] W fun e w'=>e=.returned (.agg #[.int .i64 S,.int .i64 I])/\Below W.heap.size W w':=by
    intro W;rw [←hS,←hI];exact jf _ _ _ _
   have HS:=aa hS;have HI:=aa hI;clear hS hI;by_cases h1:S=t
   . by_cases h2:I=i
     . subst h1 h2
       go_wp2_with fail
       go_region_held3 (fun w'=>w'.cell? ⟨w.heap.size,0,none⟩=some (.int .i64 n)/\w'.cell? ⟨w.heap.size,1,none⟩=some (.int .i64 s)/\w'.cell? ⟨w.heap.size+1,0,none⟩=some (.int .i64 S)/\w'.cell? ⟨w.heap.size+1,1,none⟩=some (.int .i64 I))
        (first|(exact ⟨X3.cells.1,X3.cells.2,Y3.cells.1,Y3.cells.2⟩)|(exact ⟨k0,k1,j0,j1⟩)|go_keep)
        (first
         | (go_at_call 102;refine (HP _).mono ?_;rintro e w3 ⟨rfl,b3⟩;have B3:=Below.andThen B2.drew b3;have X3:=X2.drew.below b3 X2.lt;have Y3:=Y2.drew.below b3 Y2.lt))
       go_wp2
       go_ret
       exact ⟨aF HBA.out.symm,B3⟩
     have n2:(I==i)=false:=by simpa using h2
     subst h1;go_wp2_with fail
     go_region_held3 (fun w'=>w'.cell? ⟨w.heap.size,0,none⟩=some (.int .i64 n)/\w'.cell? ⟨w.heap.size,1,none⟩=some (.int .i64 s)/\w'.cell? ⟨w.heap.size+1,0,none⟩=some (.int .i64 S)/\w'.cell? ⟨w.heap.size+1,1,none⟩=some (.int .i64 i))
      (first|(exact ⟨X3.cells.1,X3.cells.2,Y3.cells.1,Y3.cells.2⟩)|(exact ⟨k0,k1,j0,j1⟩)|go_keep)
      (first
       | (go_at_call 102;refine (HP _).mono ?_;rintro e w3 ⟨rfl,b3⟩;have B3:=Below.andThen B2.drew b3;have X3:=X2.drew.below b3 X2.lt;have Y3:=Y2.drew.below b3 Y2.lt))
     go_wp2
     go_roundw
     case rel=>exact ⟨j+1,by omega,by go_num,fun k hk h=>by
      by_cases hkj:k<j
      . exact HK.out k hkj h
      have:k=j:=by omega
      subst this;exact h2 (HI.out▸h.2),X3,Y3,B3⟩
     case measure=>simp [intOf];omega
   have n1:(S==t)=false:=by simpa using h1
   go_wp2_with fail
   go_region_held3 (fun w'=>w'.cell? ⟨w.heap.size,0,none⟩=some (.int .i64 n)/\w'.cell? ⟨w.heap.size,1,none⟩=some (.int .i64 s)/\w'.cell? ⟨w.heap.size+1,0,none⟩=some (.int .i64 t)/\w'.cell? ⟨w.heap.size+1,1,none⟩=some (.int .i64 i))
    (first|(exact ⟨X3.cells.1,X3.cells.2,Y3.cells.1,Y3.cells.2⟩)|(exact ⟨k0,k1,j0,j1⟩)|go_keep)
    (first
     | (go_at_call 102;refine (HP _).mono ?_;rintro e w3 ⟨rfl,b3⟩;have B3:=Below.andThen B2.drew b3;have X3:=X2.drew.below b3 X2.lt;have Y3:=Y2.drew.below b3 Y2.lt))
   go_wp2
   go_roundw
   case rel=>exact ⟨j+1,by omega,by go_num,fun k hk h=>by
    by_cases hkj:k<j
    . exact HK.out k hkj h
    have:k=j:=by omega
    subst this;exact h1 (HS.out▸h.1),X3,Y3,B3⟩
   case measure=>simp [intOf];omega
 go_wp2
 go_ret
 have e:j=nb:=by omega
 subst e;refine ⟨aF ?_,B2⟩
 unfold gE;rw [if_neg];intro h;obtain ⟨b,hb,h1,h2⟩:=oQ.1 h;obtain ⟨hb0,hb1⟩:=eR.1 hb;obtain ⟨b,rfl⟩:=Int.eq_ofNat_of_zero_le hb0;rw [HNB.out] at hb1;exact HK.out b (by omega) ⟨h1,h2⟩
theorem vo {n s t i:Int} (h:gy n s t i=true):0<=gE n s t i:=by
 unfold gE;rw [if_pos h];unfold gy at h;rw [Bool.and_eq_true,ee,aG] at h;obtain ⟨⟨hg,h1,h2⟩,h3,h4⟩:=h;obtain ⟨g1,g2,g3,g4⟩:=aB.1 hg;have:n=3∨n=4∨n=5:=by omega
 rcases this with rfl|rfl|rfl<;>omega
theorem xd {n s t i:Int}:gy n s t i=true ↔ bL n s=true/\0<=t/\t<s/\0<=i/\i<=n-2:=by
 unfold gy;rw [Bool.and_eq_true,ee,aG];constructor
 . rintro ⟨⟨a,b,c⟩,d,e⟩
   exact ⟨a,b,c,d,e⟩
 rintro ⟨a,b,c,d,e⟩;exact ⟨⟨a,b,c⟩,d,e⟩
theorem oR (w:World) (n s t i:Int):Calls Tryz.prog 126 #[.agg #[.int .i64 n,.int .i64 s],.int .i64 t,.int .i64 i] w fun e w'=>e=.returned (.int .i64 (fX n s t i))/\Below w.heap.size w w':=by
 have hA:=af w (.cells #[.int .i64 n,.int .i64 s] 25);have X:=bK.new w 25 n s;obtain ⟨k0,k1⟩:=X.cells;have zA:=X.lt;go_enter Tryz.func126,Tryz.ntmps126
 go_wp2_with fail
 refine (mW _ _ _ _ _).mono ?_
 rintro e w1 ⟨rfl,b1⟩;have X1:=X.below b1 zA;have B1:=Below.andThen hA b1;clear k0 k1 X b1 hA zA;obtain ⟨k0,k1⟩:=X1.cells;by_cases hs:gy n s t i=true
 . have h0:=vo hs
   obtain ⟨hg,h1,h2,h3,h4⟩:=xd.1 hs;obtain ⟨g1,g2,g3,g4⟩:=aB.1 hg;have hm1:0<=t % n:=Int.emod_nonneg _ (by omega);have hm2:t % n<n:=Int.emod_lt_of_pos _ (by omega);have HP:eS n s t=n-1-t % n:=by unfold eS;rw [if_pos (ee.2 ⟨hg,h1,h2⟩)]
   have HPar:∀W:World,Calls Tryz.prog 146 #[.agg #[.int .i64 n,.int .i64 s],.int .i64 t] W fun e w'=>e=.returned (.int .i64 (n-1-t % n))/\Below W.heap.size W w':=by
    intro W;rw [←HP];exact lJ _ _ _ _
   have HD:Hid (fX n s t i=(n-1-t % n+1+i) % n):=by unfold Hid fX;rw [if_pos hs]
   clear HP;generalize t % n=r at hm1 hm2 HPar HD;have e0:¬gE n s t i=-1:=by omega
   have e1:¬n=0:=by omega
   have e2:(n-1-r+1+i).tmod n=(n-1-r+1+i) % n:=Int.tmod_eq_emod_of_nonneg (by omega);have e3:IntKind.i64.wrap (n-1-r+1)=n-1-r+1:=IntWalk.i64_in _ (by omega);have e4:IntKind.i64.wrap (n-1-r+1+i)=n-1-r+1+i:=IntWalk.i64_in _ (by omega);have e5:(gE n s t i==-1)=false:=by simpa using e0
   go_wp2_with fail
   go_region_held3 (fun w'=>w'.cell? ⟨w.heap.size,0,none⟩=some (.int .i64 n)/\w'.cell? ⟨w.heap.size,1,none⟩=some (.int .i64 s))
    (first|(exact X2.cells)|(exact X1.cells)|go_keep)
    (first
     | (go_at_call 146;refine (HPar _).mono ?_;rintro e w2 ⟨rfl,b2⟩;have B2:=Below.andThen B1.drew b2;have X2:=X1.drew.below b2 X1.lt))
   go_wp2
   go_ret
   exact ⟨aF HD.out.symm,B2⟩
 have e0:gE n s t i=-1:=by unfold gE;rw [if_neg hs]
 have e5:(gE n s t i==-1)=true:=by simpa using e0
 go_wp2
 go_ret
 exact ⟨aF (by unfold fX;rw [if_neg hs]),B1⟩
end Go.Proofs.YtgjomldcnjjpaaaGreat

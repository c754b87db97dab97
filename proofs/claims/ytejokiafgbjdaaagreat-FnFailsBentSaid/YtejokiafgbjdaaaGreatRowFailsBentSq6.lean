/-
 The walks of both Blocks and of what tells a stripe (the program's and the specification's). No condition.
-/
import Derived.Test.YtejokiafgbjdaaaGreatRowFailsBentSq2

set_option maxRecDepth 100000
set_option maxHeartbeats 8000000
set_option linter.unusedSimpArgs false

namespace Go.Proofs.YtejokiafgbjdaaaGreat
open Go.RowKit

def bI (n s:Int):Bool:=inB n 3 5&&inB s 1 8
def bf (n s:Int):Int:=if bI n s=true then s*(n-1) else 0
def bQ (n s t:Int):Bool:=bI n s&&inB t 0 (s-1)
def fD (n s t:Int):Int:=if bQ n s t=true then n-1-t % n else -1
def nf (n s t i:Int):Bool:=bQ n s t&&inB i 0 (n-2)
def iy (n s t i:Int):Int:=if nf n s t i=true then (n-1-t % n+1+i) % n else -1
def cZ (n s b:Int):Bool:=inB b 0 (bf n s-1)
def cC (n s b:Int):Int:=if cZ n s b=true then b / (n-1) else -1
def fE (n s b:Int):Int:=if cZ n s b=true then b % (n-1) else -1
theorem aG {x l m:Int}:inB x l m=true ↔ l<=x/\x<=m:=by unfold inB;simp
theorem ft {x l m:Int}:inB x l m=false ↔ ¬(l<=x/\x<=m):=by rw [←aG];simp
theorem az {n s:Int}:bI n s=true ↔ 3<=n/\n<=5/\1<=s/\s<=8:=by unfold bI;rw [Bool.and_eq_true,aG,aG,and_assoc]
theorem kr {n s:Int} (h:bI n s=true):2<=s*(n-1)/\s*(n-1)<=32:=by
 obtain ⟨h1,h2,h3,h4⟩:=az.1 h;have:n=3∨n=4∨n=5:=by omega
 rcases this with rfl|rfl|rfl<;>omega
theorem ln {n s:Int} (h:bI n s=true):bf n s=s*(n-1):=by unfold bf;rw [if_pos h]
theorem iz {n s:Int} (h:bI n s=false):bf n s=0:=by unfold bf;rw [if_neg (by simp [h])]
theorem iW (n s:Int):0<=bf n s/\bf n s<=32:=by
 by_cases h:bI n s=true
 . rw [ln h]
   have:=kr h;omega
 rw [iz (by simpa using h)];omega
def cn (w:World) (B:Nat) (T:TypeId) (n s:Int):Prop:=w.heap[B]?=some (.cells #[.int .i64 n,.int .i64 s] T (0,0))
theorem cn.cells {w:World} {B:Nat} {T:TypeId} {n s:Int} (h:cn w B T n s):w.cell? ⟨B,0,none⟩=some (.int .i64 n)/\w.cell? ⟨B,1,none⟩=some (.int .i64 s):=
 ⟨cell_of_row w B 0 _ T (0,0) h,cell_of_row w B 1 _ T (0,0) h⟩
theorem cn.frozen {w:World} {B:Nat} {T:TypeId} {n s:Int} (h:cn w B T n s) (j:Nat):w.frozen? ⟨B,j,none⟩=false:=frozen_of_row w B j _ T h
theorem cn.new (w:World) (T:TypeId) (n s:Int):cn (w.alloc (.cells #[.int .i64 n,.int .i64 s] T)) w.heap.size T n s:=heap_alloc_new w _
theorem cn.lt {w:World} {B:Nat} {T:TypeId} {n s:Int} (h:cn w B T n s):B<w.heap.size:=(Array.getElem?_eq_some_iff.1 h).1
theorem cn.below {w w':World} {B N:Nat} {T:TypeId} {n s:Int} (h:cn w B T n s) (hb:Below N w w') (hN:B<N):cn w' B T n s:=(hb.block B hN).trans h
theorem cn.drew {w:World} {B:Nat} {T:TypeId} {n s:Int} (h:cn w B T n s):cn w.drew B T n s:=h
theorem cn.set2 {w:World} {B:Nat} {T:TypeId} {n s:Int} (h:cn w B T n s) (a c:Int):cn ((w.setCell ⟨B,0,none⟩ (.int .i64 a)).setCell ⟨B,1,none⟩ (.int .i64 c)) B T a c:=by
 have h1:(w.setCell ⟨B,0,none⟩ (.int .i64 a)).heap[B]?=some (.cells #[.int .i64 a,.int .i64 s] T (0,0)):=heap_setCell_same w B 0 _ _ _ h;exact heap_setCell_same _ B 1 _ _ _ h1
theorem gg (w:World) (n s:Int):Calls Tryz.prog 128 #[.agg #[.int .i64 n,.int .i64 s]] w fun e w'=>e=.returned (.bool (bI n s))/\Below w.heap.size w w':=by
 have hA:=ah w (.cells #[.int .i64 n,.int .i64 s] 25);obtain ⟨k0,k1⟩:=(cn.new w 25 n s).cells;by_cases h1:3<=n
 . by_cases h2:n<=5
   . by_cases h3:1<=s
     . by_cases h4:s<=8
       . go_enter Tryz.func128,Tryz.ntmps128
         go_wp2
         go_ret
         exact ⟨ag (by symm;rw [az];omega),hA⟩
       go_enter Tryz.func128,Tryz.ntmps128
       go_wp2
       go_ret
       exact ⟨ag (by symm;rw [←Bool.not_eq_true,az];omega),hA⟩
     go_enter Tryz.func128,Tryz.ntmps128
     go_wp2
     go_ret
     exact ⟨ag (by symm;rw [←Bool.not_eq_true,az];omega),hA⟩
   go_enter Tryz.func128,Tryz.ntmps128
   go_wp2
   go_ret
   exact ⟨ag (by symm;rw [←Bool.not_eq_true,az];omega),hA⟩
 go_enter Tryz.func128,Tryz.ntmps128
 go_wp2
 go_ret
 exact ⟨ag (by symm;rw [←Bool.not_eq_true,az];omega),hA⟩
theorem dS (w:World) (n s:Int):Calls Tryz.prog 135 #[.agg #[.int .i64 n,.int .i64 s]] w fun e w'=>e=.returned (.bool (bI n s))/\Below w.heap.size w w':=by
 have hA:=ah w (.cells #[.int .i64 n,.int .i64 s] 25);obtain ⟨k0,k1⟩:=(cn.new w 25 n s).cells;by_cases h1:inB n 3 5=true
 . go_enter Tryz.func135,Tryz.ntmps135
   go_wp2_with fail
   refine (aB _ _ _ _).mono ?_
   rintro e w1 ⟨rfl,rfl⟩;go_wp2_with fail
   refine (aB _ _ _ _).mono ?_
   rintro e w1 ⟨rfl,rfl⟩;go_wp2
   go_ret
   exact ⟨ag (by unfold bI;rw [h1];rfl),hA⟩
 have h1:inB n 3 5=false:=by simpa using h1
 go_enter Tryz.func135,Tryz.ntmps135
 go_wp2_with fail
 refine (aB _ _ _ _).mono ?_
 rintro e w1 ⟨rfl,rfl⟩;go_wp2
 go_ret
 exact ⟨ag (by unfold bI;rw [h1];rfl),hA⟩
structure Sup where
 id:Int
 gen:Int
 role:Int
 n:Int
 s:Int
 tail:Int
 lost:Int
 uG:Int
def supZ:Sup:=⟨0,0,0,0,0,0,0,0⟩
def gF (n s lost uG:Int):Bool:=if lost=-1 then decide (uG=0) else inB lost 0 (n-1)&&inB uG 0 s
def er (x:Sup):Bool:=bI x.n x.s&&(gF x.n x.s x.lost x.uG&&(inB x.role 0 (x.n-1)&&(inB x.id 1 60000&&(inB x.gen 0 60000&&inB x.tail 0 60000))))
theorem jG {n s lost uG:Int}:gF n s lost uG=true ↔ (lost=-1/\uG=0)∨(¬lost=-1/\0<=lost/\lost<=n-1/\0<=uG/\uG<=s):=by
 unfold gF;split
 . rename_i h
   simp [h]
 rename_i h
 rw [Bool.and_eq_true,aG,aG];simp [h,and_assoc]
theorem et {x:Sup}:er x=true ↔ (3<=x.n/\x.n<=5/\1<=x.s/\x.s<=8)/\((x.lost=-1/\x.uG=0)∨(¬x.lost=-1/\0<=x.lost/\x.lost<=x.n-1/\0<=x.uG/\x.uG<=x.s))/\(0<=x.role/\x.role<=x.n-1)/\(1<=x.id/\x.id<=60000)/\(0<=x.gen/\x.gen<=60000)/\(0<=x.tail/\x.tail<=60000):=by
 unfold er;simp only [Bool.and_eq_true,az,jG,aG]
theorem eu {x:Sup} (h:¬((3<=x.n/\x.n<=5/\1<=x.s/\x.s<=8)/\((x.lost=-1/\x.uG=0)∨(¬x.lost=-1/\0<=x.lost/\x.lost<=x.n-1/\0<=x.uG/\x.uG<=x.s))/\(0<=x.role/\x.role<=x.n-1)/\(1<=x.id/\x.id<=60000)/\(0<=x.gen/\x.gen<=60000)/\(0<=x.tail/\x.tail<=60000))):er x=false:=by
 rw [←Bool.not_eq_true,et];exact h
theorem Box.cells8 {w:World} {B:Nat} {T:TypeId} {v0 v1 v2 v3 v4 v5 v6 v7:Value} (h:Box w B T #[v0,v1,v2,v3,v4,v5,v6,v7]):
 w.cell? ⟨B,0,none⟩=some v0/\w.cell? ⟨B,1,none⟩=some v1/\w.cell? ⟨B,2,none⟩=some v2/\w.cell? ⟨B,3,none⟩=some v3/\w.cell? ⟨B,4,none⟩=some v4/\w.cell? ⟨B,5,none⟩=some v5/\w.cell? ⟨B,6,none⟩=some v6/\w.cell? ⟨B,7,none⟩=some v7:=
 ⟨h.cell 0,h.cell 1,h.cell 2,h.cell 3,h.cell 4,h.cell 5,h.cell 6,h.cell 7⟩
theorem lv (w:World) (n s lost uG:Int) (hn:3<=n/\n<=5):Calls Tryz.prog 130 #[.agg #[.int .i64 n,.int .i64 s],.int .i64 lost,.int .i64 uG] w fun e w'=>e=.returned (.bool (gF n s lost uG))/\Below w.heap.size w w':=by
 have hA:=ah w (.cells #[.int .i64 n,.int .i64 s] 25);obtain ⟨k0,k1⟩:=(cn.new w 25 n s).cells;have gw:IntKind.i64.wrap (n-1)=n-1:=IntWalk.i64_in _ (by omega);by_cases h:lost=-1
 . by_cases hb:uG=0
   . go_enter Tryz.func130,Tryz.ntmps130
     go_wp2
     go_ret
     exact ⟨ag (by unfold gF;rw [if_pos h];simp [hb]),hA⟩
   go_enter Tryz.func130,Tryz.ntmps130
   go_wp2
   go_ret
   exact ⟨ag (by unfold gF;rw [if_pos h];simp [hb]),hA⟩
 have HD:Hid (gF n s lost uG=(inB lost 0 (n-1)&&inB uG 0 s)):=by unfold Hid gF;rw [if_neg h]
 go_enter Tryz.func130,Tryz.ntmps130
 go_wp2_with fail
 refine (bL _ _ _ _).mono ?_
 rintro e w1 ⟨rfl,rfl⟩;by_cases h1:inB lost 0 (n-1)=true
 . go_wp2_with fail
   refine (bL _ _ _ _).mono ?_
   rintro e w1 ⟨rfl,rfl⟩;go_wp2
   go_ret
   exact ⟨ag (by rw [HD.out,h1];rfl),hA⟩
 have h1':inB lost 0 (n-1)=false:=by simpa using h1
 go_wp2
 go_ret
 exact ⟨ag (by rw [HD.out,h1'];rfl),hA⟩
theorem kQ (w:World) (x:Sup):Calls Tryz.prog 231 #[.agg #[.int .i64 x.id,.int .i64 x.gen,.int .i64 x.role,.int .i64 x.n,.int .i64 x.s,.int .i64 x.tail,.int .i64 x.lost,.int .i64 x.uG]] w fun e w'=>e=.returned (.bool (er x))/\Below w.heap.size w w':=by
 have hA:=ah w (.cells #[.int .i64 x.id,.int .i64 x.gen,.int .i64 x.role,.int .i64 x.n,.int .i64 x.s,.int .i64 x.tail,.int .i64 x.lost,.int .i64 x.uG] 161);have X:=Box.new w 161 #[.int .i64 x.id,.int .i64 x.gen,.int .i64 x.role,.int .i64 x.n,.int .i64 x.s,.int .i64 x.tail,.int .i64 x.lost,.int .i64 x.uG];obtain ⟨k0,k1,k2,k3,k4,k5,k6,k7⟩:=X.cells8;have zA:=X.lt;go_enter Tryz.func231,Tryz.ntmps231
 go_wp2_with fail
 refine (dS _ _ _).mono ?_
 rintro e w1 ⟨rfl,b1⟩;have X1:=X.below b1 zA;have B1:=Below.andThen hA b1;clear k0 k1 k2 k3 k4 k5 k6 k7 X b1 hA zA;obtain ⟨k0,k1,k2,k3,k4,k5,k6,k7⟩:=X1.cells8;by_cases hg:bI x.n x.s=true
 . obtain ⟨g1,g2,g3,g4⟩:=az.1 hg
   have gw:IntKind.i64.wrap (x.n-1)=x.n-1:=IntWalk.i64_in _ (by omega);go_wp2_with fail
   refine (aB _ _ _ _).mono ?_
   rintro e w2 ⟨rfl,rfl⟩;by_cases h1:inB x.id 1 60000=true
   . have h1i:=aG.1 h1
     go_wp2_with fail
     refine (aB _ _ _ _).mono ?_
     rintro e w2 ⟨rfl,rfl⟩;by_cases h2:inB x.gen 0 60000=true
     . have h2i:=aG.1 h2
       go_wp2_with fail
       refine (aB _ _ _ _).mono ?_
       rintro e w2 ⟨rfl,rfl⟩;by_cases h3:inB x.role 0 (x.n-1)=true
       . have h3i:=aG.1 h3
         go_wp2_with fail
         refine (aB _ _ _ _).mono ?_
         rintro e w2 ⟨rfl,rfl⟩;by_cases h4:inB x.tail 0 60000=true
         . have h4i:=aG.1 h4
           go_wp2_with fail
           refine (aB _ _ _ _).mono ?_
           rintro e w2 ⟨rfl,rfl⟩;by_cases h5:inB x.lost (-1) (x.n-1)=true
           . have h5i:=aG.1 h5
             go_wp2_with fail
             refine (aB _ _ _ _).mono ?_
             rintro e w2 ⟨rfl,rfl⟩;by_cases h6:inB x.uG 0 x.s=true
             . have h6i:=aG.1 h6
               clear h1 h2 h3 h4 h5 hg;go_wp2
               all_goals go_ret
               all_goals exact ⟨ag (by rw [Bool.eq_iff_iff,et];simp;omega),B1⟩
             have h6':inB x.uG 0 x.s=false:=by simpa using h6
             have h6n:=ft.1 h6';go_wp2
             go_ret
             exact ⟨ag (by symm;refine eu (fun hc=>?_);omega),B1⟩
           have h5':inB x.lost (-1) (x.n-1)=false:=by simpa using h5
           have h5n:=ft.1 h5';go_wp2
           go_ret
           exact ⟨ag (by symm;refine eu (fun hc=>?_);omega),B1⟩
         have h4':inB x.tail 0 60000=false:=by simpa using h4
         have h4n:=ft.1 h4';go_wp2
         go_ret
         exact ⟨ag (by symm;refine eu (fun hc=>?_);omega),B1⟩
       have h3':inB x.role 0 (x.n-1)=false:=by simpa using h3
       have h3n:=ft.1 h3';go_wp2
       go_ret
       exact ⟨ag (by symm;refine eu (fun hc=>?_);omega),B1⟩
     have h2':inB x.gen 0 60000=false:=by simpa using h2
     have h2n:=ft.1 h2';go_wp2
     go_ret
     exact ⟨ag (by symm;refine eu (fun hc=>?_);omega),B1⟩
   have h1':inB x.id 1 60000=false:=by simpa using h1
   have h1n:=ft.1 h1';go_wp2
   go_ret
   exact ⟨ag (by symm;refine eu (fun hc=>?_);omega),B1⟩
 have hg':bI x.n x.s=false:=by simpa using hg
 go_wp2
 go_ret
 exact ⟨ag (by unfold er;rw [hg'];rfl),B1⟩
theorem io (w:World) (x:Sup):Calls Tryz.prog 257 #[.agg #[.int .i64 x.id,.int .i64 x.gen,.int .i64 x.role,.int .i64 x.n,.int .i64 x.s,.int .i64 x.tail,.int .i64 x.lost,.int .i64 x.uG]] w fun e w'=>e=.returned (.bool (er x))/\Below w.heap.size w w':=by
 have hA:=ah w (.cells #[.int .i64 x.id,.int .i64 x.gen,.int .i64 x.role,.int .i64 x.n,.int .i64 x.s,.int .i64 x.tail,.int .i64 x.lost,.int .i64 x.uG] 161);have X:=Box.new w 161 #[.int .i64 x.id,.int .i64 x.gen,.int .i64 x.role,.int .i64 x.n,.int .i64 x.s,.int .i64 x.tail,.int .i64 x.lost,.int .i64 x.uG];obtain ⟨k0,k1,k2,k3,k4,k5,k6,k7⟩:=X.cells8;have zA:=X.lt;go_enter Tryz.func257,Tryz.ntmps257
 have hA2:=Below.andThen hA (ah (w.alloc (.cells #[.int .i64 x.id,.int .i64 x.gen,.int .i64 x.role,.int .i64 x.n,.int .i64 x.s,.int .i64 x.tail,.int .i64 x.lost,.int .i64 x.uG] 161)) (.cells #[.int .i64 x.n,.int .i64 x.s] 25));have X2:=X.alloc (.cells #[.int .i64 x.n,.int .i64 x.s] 25);have G2:=Box.new (w.alloc (.cells #[.int .i64 x.id,.int .i64 x.gen,.int .i64 x.role,.int .i64 x.n,.int .i64 x.s,.int .i64 x.tail,.int .i64 x.lost,.int .i64 x.uG] 161)) 25 #[.int .i64 x.n,.int .i64 x.s];rw [World.size_alloc] at G2;obtain ⟨j0,j1⟩:=G2.cells2;obtain ⟨i0,i1,i2,i3,i4,i5,i6,i7⟩:=X2.cells8;go_wp2_with fail
 generalize (w.alloc (.cells #[.int .i64 x.id,.int .i64 x.gen,.int .i64 x.role,.int .i64 x.n,.int .i64 x.s,.int .i64 x.tail,.int .i64 x.lost,.int .i64 x.uG] 161)).alloc (.cells #[.int .i64 x.n,.int .i64 x.s] 25)=W at hA2 X2 G2 i0 i1 i2 i3 i4 i5 i6 i7 j0 j1 ⊢;have zX:=X2.lt;have zG:=G2.lt;refine (gg _ _ _).mono ?_
 rintro e w1 ⟨rfl,b1⟩;have X1:=X2.below b1 zX;have G1:=G2.below b1 zG;have B1:=Below.andThen hA2 b1;clear k0 k1 k2 k3 k4 k5 k6 k7 i0 i1 i2 i3 i4 i5 i6 i7 j0 j1 X hA zA b1 hA2 X2 G2 zX zG;obtain ⟨k0,k1,k2,k3,k4,k5,k6,k7⟩:=X1.cells8;obtain ⟨j0,j1⟩:=G1.cells2;by_cases hg:bI x.n x.s=true
 . obtain ⟨g1,g2,g3,g4⟩:=az.1 hg
   have gw:IntKind.i64.wrap (x.n-1)=x.n-1:=IntWalk.i64_in _ (by omega);go_wp2_with fail
   refine (lv _ _ _ _ _ ⟨g1,g2⟩).mono ?_
   rintro e w2 ⟨rfl,b2⟩;have X3:=X1.below b2 X1.lt;have G3:=G1.below b2 G1.lt;have B3:=Below.andThen B1 b2;clear k0 k1 k2 k3 k4 k5 k6 k7 j0 j1 X1 G1 B1 b2;obtain ⟨k0,k1,k2,k3,k4,k5,k6,k7⟩:=X3.cells8;obtain ⟨j0,j1⟩:=G3.cells2;by_cases hl:gF x.n x.s x.lost x.uG=true
   . have hli:=jG.1 hl
     go_wp2_with fail
     refine (bL _ _ _ _).mono ?_
     rintro e w4 ⟨rfl,rfl⟩;by_cases h1:inB x.role 0 (x.n-1)=true
     . have h1i:=aG.1 h1
       go_wp2_with fail
       refine (bL _ _ _ _).mono ?_
       rintro e w4 ⟨rfl,rfl⟩;by_cases h2:inB x.id 1 60000=true
       . have h2i:=aG.1 h2
         go_wp2_with fail
         refine (bL _ _ _ _).mono ?_
         rintro e w4 ⟨rfl,rfl⟩;by_cases h3:inB x.gen 0 60000=true
         . have h3i:=aG.1 h3
           go_wp2_with fail
           refine (bL _ _ _ _).mono ?_
           rintro e w4 ⟨rfl,rfl⟩;go_wp2
           go_ret
           exact ⟨ag (by unfold er;rw [hg,hl,h1,h2,h3];rfl),B3⟩
         have h3':inB x.gen 0 60000=false:=by simpa using h3
         have h3n:=ft.1 h3';go_wp2
         go_ret
         exact ⟨ag (by symm;refine eu (fun hc=>?_);omega),B3⟩
       have h2':inB x.id 1 60000=false:=by simpa using h2
       have h2n:=ft.1 h2';go_wp2
       go_ret
       exact ⟨ag (by symm;refine eu (fun hc=>?_);omega),B3⟩
     have h1':inB x.role 0 (x.n-1)=false:=by simpa using h1
     have h1n:=ft.1 h1';go_wp2
     go_ret
     exact ⟨ag (by symm;refine eu (fun hc=>?_);omega),B3⟩
   have hl':gF x.n x.s x.lost x.uG=false:=by simpa using hl
   go_wp2
   go_ret
   exact ⟨ag (by unfold er;rw [hg,hl'];rfl),B3⟩
 have hg':bI x.n x.s=false:=by simpa using hg
 go_wp2
 go_ret
 exact ⟨ag (by unfold er;rw [hg'];rfl),B1⟩
def dH (x:Sup):List Int:=if er x=true then [21317,x.id,x.gen,x.role,x.n,x.s,x.tail,x.lost+1,x.uG] else []
theorem rg {x:Sup} (h:er x=true):dH x=[21317,x.id,x.gen,x.role,x.n,x.s,x.tail,x.lost+1,x.uG]:=by unfold dH;rw [if_pos h]
theorem pf {x:Sup} (h:er x=false):dH x=[]:=by unfold dH;rw [if_neg (by simp [h])]
theorem jH (w:World) (x:Sup) (hx:er x=true):Calls Tryz.prog 262 #[.agg #[.int .i64 x.id,.int .i64 x.gen,.int .i64 x.role,.int .i64 x.n,.int .i64 x.s,.int .i64 x.tail,.int .i64 x.lost,.int .i64 x.uG]] w fun e w'=>e=.returned (.agg #[.int .i64 21317,.int .i64 x.id,.int .i64 x.gen,.int .i64 x.role,.int .i64 x.n,.int .i64 x.s,.int .i64 x.tail,.int .i64 (x.lost+1),.int .i64 x.uG])/\Below w.heap.size w w':=by
 obtain ⟨_,hl,_⟩:=et.1 hx;have gw:IntKind.i64.wrap (x.lost+1)=x.lost+1:=IntWalk.i64_in _ (by have:=(et.1 hx).1;omega);clear hl hx;go_enter Tryz.func262,Tryz.ntmps262
 go_wp2
 refine bodyPost_ret (v:=.agg #[.int .i64 21317,.int .i64 x.id,.int .i64 x.gen,.int .i64 x.role,.int .i64 x.n,.int .i64 x.s,.int .i64 x.tail,.int .i64 (x.lost+1),.int .i64 x.uG]) (by simp [results,Tryz.results262,go_sem]) rfl ?_
 refine ⟨rfl,?_⟩
 exact (ah w _).alloc (by simp) _
theorem gG (w:World) (x:Sup):Calls Tryz.prog 190 #[.agg #[.int .i64 x.id,.int .i64 x.gen,.int .i64 x.role,.int .i64 x.n,.int .i64 x.s,.int .i64 x.tail,.int .i64 x.lost,.int .i64 x.uG]] w fun e w'=>∃a l c,e=.returned (.slice a l c)/\aA.Own w' w.heap.size w'.heap.size [.slice a l c] (dH x)/\Below w.heap.size w w':=by
 have hA:=ah w (.cells #[.int .i64 x.id,.int .i64 x.gen,.int .i64 x.role,.int .i64 x.n,.int .i64 x.s,.int .i64 x.tail,.int .i64 x.lost,.int .i64 x.uG] 161);have X:=Box.new w 161 #[.int .i64 x.id,.int .i64 x.gen,.int .i64 x.role,.int .i64 x.n,.int .i64 x.s,.int .i64 x.tail,.int .i64 x.lost,.int .i64 x.uG];obtain ⟨k0,k1,k2,k3,k4,k5,k6,k7⟩:=X.cells8;have zA:=X.lt;go_enter Tryz.func190,Tryz.ntmps190
 go_wp2_with fail
 generalize w.alloc (.cells #[.int .i64 x.id,.int .i64 x.gen,.int .i64 x.role,.int .i64 x.n,.int .i64 x.s,.int .i64 x.tail,.int .i64 x.lost,.int .i64 x.uG] 161)=W at hA X k0 k1 k2 k3 k4 k5 k6 k7 zA ⊢;refine (kQ _ _).mono ?_
 rintro e w1 ⟨rfl,b1⟩;have X1:=X.below b1 zA;have B1:=Below.andThen hA b1;clear k0 k1 k2 k3 k4 k5 k6 k7 X b1 hA zA;obtain ⟨k0,k1,k2,k3,k4,k5,k6,k7⟩:=X1.cells8;by_cases hx:er x=true
 . have gw:IntKind.i64.wrap (x.lost+1)=x.lost+1:=IntWalk.i64_in _ (by have:=et.1 hx;omega)
   have HX:=aa (rg hx);go_wp2
   go_ret
   refine ⟨_,_,_,rfl,?_,B1.alloc B1.size _⟩
   rw [HX.out];exact (bh (br.lit .i64 3 w1 [21317,x.id,x.gen,x.role,x.n,x.s,x.tail,x.lost+1,x.uG] 9 _ (by simp) rfl (by unfold maxLen;omega))).widen B1.size (Nat.le_refl _)
 have hx':er x=false:=by simpa using hx
 have HX:=aa (pf hx');go_wp2
 go_ret
 refine ⟨_,_,_,rfl,?_,B1.alloc B1.size _⟩
 rw [HX.out];exact (bh (br.lit .i64 3 w1 [] 0 #[] rfl rfl (by unfold maxLen;omega))).widen B1.size (Nat.le_refl _)
theorem gH (w:World) (x:Sup):Calls Tryz.prog 259 #[.agg #[.int .i64 x.id,.int .i64 x.gen,.int .i64 x.role,.int .i64 x.n,.int .i64 x.s,.int .i64 x.tail,.int .i64 x.lost,.int .i64 x.uG]] w fun e w'=>∃a l c,e=.returned (.slice a l c)/\aA.Own w' w.heap.size w'.heap.size [.slice a l c] (dH x)/\Below w.heap.size w w':=by
 have hA:=ah w (.cells #[.int .i64 x.id,.int .i64 x.gen,.int .i64 x.role,.int .i64 x.n,.int .i64 x.s,.int .i64 x.tail,.int .i64 x.lost,.int .i64 x.uG] 161);have X:=Box.new w 161 #[.int .i64 x.id,.int .i64 x.gen,.int .i64 x.role,.int .i64 x.n,.int .i64 x.s,.int .i64 x.tail,.int .i64 x.lost,.int .i64 x.uG];obtain ⟨k0,k1,k2,k3,k4,k5,k6,k7⟩:=X.cells8;have zA:=X.lt;go_enter Tryz.func259,Tryz.ntmps259
 go_wp2_with fail
 generalize w.alloc (.cells #[.int .i64 x.id,.int .i64 x.gen,.int .i64 x.role,.int .i64 x.n,.int .i64 x.s,.int .i64 x.tail,.int .i64 x.lost,.int .i64 x.uG] 161)=W at hA X k0 k1 k2 k3 k4 k5 k6 k7 zA ⊢;refine (io _ _).mono ?_
 rintro e w1 ⟨rfl,b1⟩;have X1:=X.below b1 zA;have B1:=Below.andThen hA b1;clear k0 k1 k2 k3 k4 k5 k6 k7 X b1 hA zA;obtain ⟨k0,k1,k2,k3,k4,k5,k6,k7⟩:=X1.cells8;by_cases hx:er x=true
 . have HX:=aa (rg hx)
   go_wp2_with fail
   refine (jH _ _ hx).mono ?_
   rintro e w2 ⟨rfl,b2⟩;have B2:=Below.andThen B1 b2;clear k0 k1 k2 k3 k4 k5 k6 k7 X1 b2 B1;have hR:aA.Rd (w2.alloc (.cells #[.int .i64 21317,.int .i64 x.id,.int .i64 x.gen,.int .i64 x.role,.int .i64 x.n,.int .i64 x.s,.int .i64 x.tail,.int .i64 (x.lost+1),.int .i64 x.uG] 207)) [.slice (some ⟨w2.heap.size,0,none⟩) 9 9] [21317,x.id,x.gen,x.role,x.n,x.s,x.tail,x.lost+1,x.uG]:=pY (zs:=[21317,x.id,x.gen,x.role,x.n,x.s,x.tail,x.lost+1,x.uG]) (aF.new .i64 w2 207 _ _ (by simp)) (by simp) (by omega) (by simp);have B3:=B2.alloc B2.size (.cells #[.int .i64 21317,.int .i64 x.id,.int .i64 x.gen,.int .i64 x.role,.int .i64 x.n,.int .i64 x.s,.int .i64 x.tail,.int .i64 (x.lost+1),.int .i64 x.uG] 207);have z3:=B3.size;go_wp2_with fail
   generalize w2.alloc (.cells #[.int .i64 21317,.int .i64 x.id,.int .i64 x.gen,.int .i64 x.role,.int .i64 x.n,.int .i64 x.s,.int .i64 x.tail,.int .i64 (x.lost+1),.int .i64 x.uG] 207)=w3 at hR B3 z3 ⊢;refine (bK _ _ _ _ _ hR (by omega)).mono ?_
   rintro e w4 ⟨a',c',rfl,o4,b4⟩;go_wp2
   go_ret
   refine ⟨_,_,_,rfl,?_,Below.andThen B3 b4⟩
   rw [HX.out];exact o4.widen z3 (Nat.le_refl _)
 have hx':er x=false:=by simpa using hx
 have HX:=aa (pf hx');go_wp2
 go_ret
 refine ⟨_,_,_,rfl,?_,B1.alloc B1.size _⟩
 rw [HX.out];exact (bh (br.lit .i64 3 w1 [] 0 #[] rfl rfl (by unfold maxLen;omega))).widen B1.size (Nat.le_refl _)
theorem lw (g:Int) (w:World) (h:0<=g):Calls Tryz.prog 258 #[.int .i64 g] w fun e w'=>e=.returned (.int .i64 (g % 2))/\w'=w:=by
 have e1:g.tmod 2=g % 2:=Int.tmod_eq_emod_of_nonneg h;go_enter Tryz.func258,Tryz.ntmps258
 go_wp2
 go_ret
 exact ⟨aP (by first|rfl|exact e1),rfl⟩
theorem lK {n s t:Int}:bQ n s t=true ↔ bI n s=true/\0<=t/\t<=s-1:=by unfold bQ;rw [Bool.and_eq_true,aG]
theorem cT (w:World) (n s:Int):Calls Tryz.prog 109 #[.agg #[.int .i64 n,.int .i64 s]] w fun e w'=>e=.returned (.int .i64 (bf n s))/\Below w.heap.size w w':=by
 have hA:=ah w (.cells #[.int .i64 n,.int .i64 s] 25);have X:=cn.new w 25 n s;obtain ⟨k0,k1⟩:=X.cells;have zA:=X.lt;go_enter Tryz.func109,Tryz.ntmps109
 go_wp2_with fail
 refine (dS _ _ _).mono ?_
 rintro e w1 ⟨rfl,b1⟩;have X1:=X.below b1 zA;obtain ⟨p0,p1⟩:=X1.cells;have B1:=Below.andThen hA b1;clear k0 k1 X b1 hA zA;by_cases hg:bI n s=true
 . obtain ⟨h1,h2,h3,h4⟩:=az.1 hg
   have hm:=kr hg;have HB:=aa (ln hg);have gw:IntKind.i64.wrap (s*(n-1))=s*(n-1):=IntWalk.i64_in _ (by omega);go_wp2
   go_ret
   exact ⟨aP HB.out.symm,B1⟩
 have hg:bI n s=false:=by simpa using hg
 go_wp2
 go_ret
 exact ⟨aP (iz hg).symm,B1⟩
theorem jq (w:World) (n s t:Int):Calls Tryz.prog 217 #[.agg #[.int .i64 n,.int .i64 s],.int .i64 t] w fun e w'=>e=.returned (.bool (bQ n s t))/\Below w.heap.size w w':=by
 have hA:=ah w (.cells #[.int .i64 n,.int .i64 s] 25);have X:=cn.new w 25 n s;obtain ⟨k0,k1⟩:=X.cells;have zA:=X.lt;go_enter Tryz.func217,Tryz.ntmps217
 go_wp2_with fail
 refine (dS _ _ _).mono ?_
 rintro e w1 ⟨rfl,b1⟩;have X1:=X.below b1 zA;obtain ⟨p0,p1⟩:=X1.cells;have B1:=Below.andThen hA b1;clear k0 k1 X b1 hA zA;by_cases hg:bI n s=true
 . obtain ⟨h1,h2,h3,h4⟩:=az.1 hg
   go_wp2_with fail
   refine (aB _ _ _ _).mono ?_
   rintro e w2 ⟨rfl,rfl⟩;go_wp2
   go_ret
   exact ⟨ag (by unfold bQ;rw [hg];rfl),B1⟩
 have hg:bI n s=false:=by simpa using hg
 go_wp2
 go_ret
 exact ⟨ag (by unfold bQ;rw [hg];rfl),B1⟩
theorem gQ (w:World) (n s t:Int):Calls Tryz.prog 218 #[.agg #[.int .i64 n,.int .i64 s],.int .i64 t] w fun e w'=>e=.returned (.int .i64 (fD n s t))/\Below w.heap.size w w':=by
 have hA:=ah w (.cells #[.int .i64 n,.int .i64 s] 25);have X:=cn.new w 25 n s;obtain ⟨k0,k1⟩:=X.cells;have zA:=X.lt;go_enter Tryz.func218,Tryz.ntmps218
 go_wp2_with fail
 refine (jq _ _ _ _).mono ?_
 rintro e w1 ⟨rfl,b1⟩;have X1:=X.below b1 zA;obtain ⟨p0,p1⟩:=X1.cells;have B1:=Below.andThen hA b1;clear k0 k1 X b1 hA zA;by_cases hg:bQ n s t=true
 . obtain ⟨hg1,h1,h2⟩:=lK.1 hg
   obtain ⟨g1,g2,g3,g4⟩:=az.1 hg1;have hm1:0<=t % n:=Int.emod_nonneg _ (by omega);have hm2:t % n<n:=Int.emod_lt_of_pos _ (by omega);have HB:Hid (fD n s t=n-1-t % n):=by unfold Hid fD;rw [if_pos hg]
   go_wp2_with fail
   go_quiet (fail)
   go_wp2
   go_ret
   exact ⟨aP (by rw [HB.out]),Below.andSame B1 ((aH.refl _).drewN _)⟩
 have hg':bQ n s t=false:=by simpa using hg
 go_wp2
 go_ret
 exact ⟨aP (by unfold fD;rw [if_neg hg]),B1⟩
theorem lM (w:World) (n s t i:Int):Calls Tryz.prog 172 #[.agg #[.int .i64 n,.int .i64 s],.int .i64 t,.int .i64 i] w fun e w'=>e=.returned (.int .i64 (iy n s t i))/\Below w.heap.size w w':=by
 have hA:=ah w (.cells #[.int .i64 n,.int .i64 s] 25);have X:=cn.new w 25 n s;obtain ⟨k0,k1⟩:=X.cells;have zA:=X.lt;go_enter Tryz.func172,Tryz.ntmps172
 go_wp2_with fail
 refine (jq _ _ _ _).mono ?_
 rintro e w1 ⟨rfl,b1⟩;have X1:=X.below b1 zA;have B1:=Below.andThen hA b1;clear k0 k1 X b1 hA zA;obtain ⟨k0,k1⟩:=X1.cells;by_cases hs:bQ n s t=true
 . obtain ⟨hg,h1,h2⟩:=lK.1 hs
   obtain ⟨g1,g2,g3,g4⟩:=az.1 hg;go_wp2_with fail
   refine (aB _ _ _ _).mono ?_
   rintro e w2 ⟨rfl,rfl⟩;by_cases hi:inB i 0 (n-2)=true
   . obtain ⟨h3,h4⟩:=aG.1 hi
     have hm1:0<=t % n:=Int.emod_nonneg _ (by omega);have hm2:t % n<n:=Int.emod_lt_of_pos _ (by omega);have HP:fD n s t=n-1-t % n:=by unfold fD;rw [if_pos hs]
     have HPar:∀W:World,Calls Tryz.prog 218 #[.agg #[.int .i64 n,.int .i64 s],.int .i64 t] W fun e w'=>e=.returned (.int .i64 (n-1-t % n))/\Below W.heap.size W w':=by
      intro W;rw [←HP];exact gQ _ _ _ _
     have HD:Hid (iy n s t i=(n-1-t % n+1+i) % n):=by unfold Hid iy nf;rw [hs,hi];rfl
     clear HP;generalize t % n=r at hm1 hm2 HPar HD;have e1:¬n=0:=by omega
     have e2:(n-1-r+1+i).tmod n=(n-1-r+1+i) % n:=Int.tmod_eq_emod_of_nonneg (by omega);have e3:IntKind.i64.wrap (n-1-r+1)=n-1-r+1:=IntWalk.i64_in _ (by omega);have e4:IntKind.i64.wrap (n-1-r+1+i)=n-1-r+1+i:=IntWalk.i64_in _ (by omega);go_wp2_with fail
     go_region_held3 (fun w'=>w'.cell? ⟨w.heap.size,0,none⟩=some (.int .i64 n)/\w'.cell? ⟨w.heap.size,1,none⟩=some (.int .i64 s))
      (first|(exact X2.cells)|(exact X1.cells)|go_keep)
      (first
       | (go_at_call 218;refine (HPar _).mono ?_;rintro e w2 ⟨rfl,b2⟩;have B2:=Below.andThen B1.drew b2;have X2:=X1.drew.below b2 X1.lt))
     go_wp2
     go_ret
     exact ⟨aP HD.out.symm,B2⟩
   have hi':inB i 0 (n-2)=false:=by simpa using hi
   go_wp2
   go_ret
   exact ⟨aP (by unfold iy nf;rw [hs,hi'];rfl),B1⟩
 have hs':bQ n s t=false:=by simpa using hs
 go_wp2
 go_ret
 exact ⟨aP (by unfold iy nf;rw [hs'];rfl),B1⟩
theorem kz {n s b:Int} (h:cZ n s b=true):bI n s=true/\0<=b/\b<bf n s:=by
 unfold cZ at h;rw [aG] at h;by_cases hg:bI n s=true
 . exact ⟨hg,by omega,by omega⟩
 rw [iz (by simpa using hg)] at h;omega
theorem jN (w:World) (n s b:Int):Calls Tryz.prog 52 #[.agg #[.int .i64 n,.int .i64 s],.int .i64 b] w fun e w'=>e=.returned (.int .i64 (cC n s b))/\Below w.heap.size w w':=by
 have hA:=ah w (.cells #[.int .i64 n,.int .i64 s] 25);have X:=cn.new w 25 n s;obtain ⟨k0,k1⟩:=X.cells;have zA:=X.lt;have hr:=iW n s;have HR:Hid (inB b 0 (bf n s-1)=cZ n s b):=rfl;go_enter Tryz.func52,Tryz.ntmps52
 go_wp2_with fail
 refine (cT _ _ _).mono ?_
 rintro e w1 ⟨rfl,b1⟩;have X1:=X.below b1 zA;have B1:=Below.andThen hA b1;clear k0 k1 X b1 hA zA;obtain ⟨k0,k1⟩:=X1.cells;go_wp2_with fail
 refine (aB _ _ _ _).mono ?_
 rintro e w2 ⟨rfl,rfl⟩;rw [HR.out];by_cases hb:cZ n s b=true
 . obtain ⟨hg,h0,h1⟩:=kz hb
   obtain ⟨g1,g2,g3,g4⟩:=az.1 hg;have HS:Hid (cC n s b=b / (n-1)):=by unfold Hid cC;rw [if_pos hb]
   have d1:0<=b / (n-1):=Int.ediv_nonneg (by omega) (by omega);have d2:b / (n-1)<=b:=Int.ediv_le_self _ (by omega);have e1:¬n-1=0:=by omega
   have e2:IntKind.i64.wrap (b.tdiv (n-1))=b / (n-1):=by rw [Int.tdiv_eq_ediv_of_nonneg h0];exact IntWalk.i64_in _ (by omega)
   go_wp2
   go_ret
   exact ⟨aP HS.out.symm,B1⟩
 have hb':cZ n s b=false:=by simpa using hb
 go_wp2
 go_ret
 exact ⟨aP (by unfold cC;rw [if_neg hb]),B1⟩
theorem kT (w:World) (n s b:Int):Calls Tryz.prog 53 #[.agg #[.int .i64 n,.int .i64 s],.int .i64 b] w fun e w'=>e=.returned (.int .i64 (fE n s b))/\Below w.heap.size w w':=by
 have hA:=ah w (.cells #[.int .i64 n,.int .i64 s] 25);have X:=cn.new w 25 n s;obtain ⟨k0,k1⟩:=X.cells;have zA:=X.lt;have hr:=iW n s;have HR:Hid (inB b 0 (bf n s-1)=cZ n s b):=rfl;go_enter Tryz.func53,Tryz.ntmps53
 go_wp2_with fail
 refine (cT _ _ _).mono ?_
 rintro e w1 ⟨rfl,b1⟩;have X1:=X.below b1 zA;have B1:=Below.andThen hA b1;clear k0 k1 X b1 hA zA;obtain ⟨k0,k1⟩:=X1.cells;go_wp2_with fail
 refine (aB _ _ _ _).mono ?_
 rintro e w2 ⟨rfl,rfl⟩;rw [HR.out];by_cases hb:cZ n s b=true
 . obtain ⟨hg,h0,h1⟩:=kz hb
   obtain ⟨g1,g2,g3,g4⟩:=az.1 hg;have HS:Hid (fE n s b=b % (n-1)):=by unfold Hid fE;rw [if_pos hb]
   have e1:¬n-1=0:=by omega
   have e3:b.tmod (n-1)=b % (n-1):=Int.tmod_eq_emod_of_nonneg h0;go_wp2
   go_ret
   exact ⟨aP HS.out.symm,B1⟩
 have hb':cZ n s b=false:=by simpa using hb
 go_wp2
 go_ret
 exact ⟨aP (by unfold fE;rw [if_neg hb]),B1⟩
theorem dl (w:World) (n s:Int) (h1:3<=n) (h2:n<=5):Calls Tryz.prog 169 #[.agg #[.int .i64 n,.int .i64 s]] w fun e w'=>e=.returned (.int .i64 (n-1))/\Below w.heap.size w w':=by
 have hA:=ah w (.cells #[.int .i64 n,.int .i64 s] 25);obtain ⟨k0,k1⟩:=(cn.new w 25 n s).cells;go_enter Tryz.func169,Tryz.ntmps169
 go_wp2
 go_ret
 exact ⟨aP (by first|rfl|omega),hA⟩
theorem mt {n s t:Int}:bQ n s t=true ↔ bI n s=true/\0<=t/\t<s:=by unfold bQ;rw [Bool.and_eq_true,aG];constructor<;>(rintro ⟨a,b⟩;exact ⟨a,by omega⟩)
theorem eW {n s t:Int}:bQ n s t=false ↔ ¬(bI n s=true/\0<=t/\t<s):=by rw [←mt];simp
theorem cg (w:World) (n s t:Int):Calls Tryz.prog 81 #[.agg #[.int .i64 n,.int .i64 s],.int .i64 t] w fun e w'=>e=.returned (.bool (bQ n s t))/\Below w.heap.size w w':=by
 have hA:=ah w (.cells #[.int .i64 n,.int .i64 s] 25);have X:=cn.new w 25 n s;obtain ⟨k0,k1⟩:=X.cells;have zA:=X.lt;go_enter Tryz.func81,Tryz.ntmps81
 go_wp2_with fail
 refine (gg _ _ _).mono ?_
 rintro e w1 ⟨rfl,b1⟩;have X1:=X.below b1 zA;obtain ⟨p0,p1⟩:=X1.cells;have B1:=Below.andThen hA b1;clear k0 k1 X b1 hA zA;by_cases hg:bI n s=true
 . by_cases h1:0<=t
   . by_cases h2:t<s
     . go_wp2
       go_ret
       exact ⟨ag (by symm;rw [mt];exact ⟨hg,h1,h2⟩),B1⟩
     go_wp2
     go_ret
     exact ⟨ag (by first|(exact (eW.2 (by omega)).symm)|(rw [eW.2 (by omega)];simp;omega)),B1⟩
   go_wp2
   go_ret
   exact ⟨ag (by first|(exact (eW.2 (by omega)).symm)|(rw [eW.2 (by omega)];simp;omega)),B1⟩
 have hg:bI n s=false:=by simpa using hg
 go_wp2
 go_ret
 exact ⟨ag (by symm;rw [eW];simp [hg]),B1⟩
end Go.Proofs.YtejokiafgbjdaaaGreat

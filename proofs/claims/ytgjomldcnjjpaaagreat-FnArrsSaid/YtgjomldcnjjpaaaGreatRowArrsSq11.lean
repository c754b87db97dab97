/-
 What a command does to blocks, as plain definitions: the blocks behind it, its code and the words that it reads; lemmas on a row that is written from a place on. No condition; nothing of the program is named here but the specification's numbers.
-/
import Derived.Test.YtgjomldcnjjpaaaGreatRowArrsSq3
import Derived.Test.YtgjomldcnjjpaaaGreatRowArrsSq5
import Derived.Lib.SliceRun
import Derived.Test.YtgjomldcnjjpaaaGreatRowArrsSq6
import Derived.Test.YtgjomldcnjjpaaaGreatRowArrsSq2

set_option maxRecDepth 100000
set_option maxHeartbeats 8000000
set_option linter.unusedSimpArgs false

namespace Go.Proofs.YtgjomldcnjjpaaaGreat
open Go.RowKit

structure Sup where
 id:Int
 gen:Int
 role:Int
 n:Int
 s:Int
 tail:Int
 lost:Int
 xW:Int
def oV:Sup:=⟨0,0,0,0,0,0,0,0⟩
def ii (n s lost xW:Int):Bool:=if lost=-1 then decide (xW=0) else inB lost 0 (n-1)&&inB xW 0 s
def ft (x:Sup):Bool:=bL x.n x.s&&(ii x.n x.s x.lost x.xW&&(inB x.role 0 (x.n-1)&&(inB x.id 1 60000&&(inB x.gen 0 60000&&inB x.tail 0 60000))))
theorem lm {n s lost xW:Int}:ii n s lost xW=true ↔ (lost=-1/\xW=0)∨(¬lost=-1/\0<=lost/\lost<=n-1/\0<=xW/\xW<=s):=by
 unfold ii;split
 . rename_i h
   simp [h]
 rename_i h
 rw [Bool.and_eq_true,aG,aG];simp [h,and_assoc]
theorem eV {x:Sup}:ft x=true ↔ (3<=x.n/\x.n<=5/\1<=x.s/\x.s<=8)/\((x.lost=-1/\x.xW=0)∨(¬x.lost=-1/\0<=x.lost/\x.lost<=x.n-1/\0<=x.xW/\x.xW<=x.s))/\(0<=x.role/\x.role<=x.n-1)/\(1<=x.id/\x.id<=60000)/\(0<=x.gen/\x.gen<=60000)/\(0<=x.tail/\x.tail<=60000):=by
 unfold ft;simp only [Bool.and_eq_true,aB,lm,aG]
theorem eX {x:Sup} (h:¬((3<=x.n/\x.n<=5/\1<=x.s/\x.s<=8)/\((x.lost=-1/\x.xW=0)∨(¬x.lost=-1/\0<=x.lost/\x.lost<=x.n-1/\0<=x.xW/\x.xW<=x.s))/\(0<=x.role/\x.role<=x.n-1)/\(1<=x.id/\x.id<=60000)/\(0<=x.gen/\x.gen<=60000)/\(0<=x.tail/\x.tail<=60000))):ft x=false:=by
 rw [←Bool.not_eq_true,eV];exact h
theorem Box.cells8 {w:World} {B:Nat} {T:TypeId} {v0 v1 v2 v3 v4 v5 v6 v7:Value} (h:Box w B T #[v0,v1,v2,v3,v4,v5,v6,v7]):
 w.cell? ⟨B,0,none⟩=some v0/\w.cell? ⟨B,1,none⟩=some v1/\w.cell? ⟨B,2,none⟩=some v2/\w.cell? ⟨B,3,none⟩=some v3/\w.cell? ⟨B,4,none⟩=some v4/\w.cell? ⟨B,5,none⟩=some v5/\w.cell? ⟨B,6,none⟩=some v6/\w.cell? ⟨B,7,none⟩=some v7:=
 ⟨h.cell 0,h.cell 1,h.cell 2,h.cell 3,h.cell 4,h.cell 5,h.cell 6,h.cell 7⟩
theorem nh (w:World) (n s lost xW:Int) (hn:3<=n/\n<=5):Calls Tryz.prog 29 #[.agg #[.int .i64 n,.int .i64 s],.int .i64 lost,.int .i64 xW] w fun e w'=>e=.returned (.bool (ii n s lost xW))/\Below w.heap.size w w':=by
 have hA:=af w (.cells #[.int .i64 n,.int .i64 s] 25);obtain ⟨k0,k1⟩:=(bK.new w 25 n s).cells;have gw:IntKind.i64.wrap (n-1)=n-1:=IntWalk.i64_in _ (by omega);by_cases h:lost=-1
 . by_cases hb:xW=0
   . go_enter Tryz.func29,Tryz.ntmps29
     go_wp2
     go_ret
     exact ⟨ah (by unfold ii;rw [if_pos h];simp [hb]),hA⟩
   go_enter Tryz.func29,Tryz.ntmps29
   go_wp2
   go_ret
   exact ⟨ah (by unfold ii;rw [if_pos h];simp [hb]),hA⟩
 have HD:Hid (ii n s lost xW=(inB lost 0 (n-1)&&inB xW 0 s)):=by unfold Hid ii;rw [if_neg h]
 go_enter Tryz.func29,Tryz.ntmps29
 go_wp2_with fail
 refine (cg _ _ _ _).mono ?_
 rintro e w1 ⟨rfl,rfl⟩;by_cases h1:inB lost 0 (n-1)=true
 . go_wp2_with fail
   refine (cg _ _ _ _).mono ?_
   rintro e w1 ⟨rfl,rfl⟩;go_wp2
   go_ret
   exact ⟨ah (by rw [HD.out,h1];rfl),hA⟩
 have h1':inB lost 0 (n-1)=false:=by simpa using h1
 go_wp2
 go_ret
 exact ⟨ah (by rw [HD.out,h1'];rfl),hA⟩
theorem mM (w:World) (x:Sup):Calls Tryz.prog 73 #[.agg #[.int .i64 x.id,.int .i64 x.gen,.int .i64 x.role,.int .i64 x.n,.int .i64 x.s,.int .i64 x.tail,.int .i64 x.lost,.int .i64 x.xW]] w fun e w'=>e=.returned (.bool (ft x))/\Below w.heap.size w w':=by
 have hA:=af w (.cells #[.int .i64 x.id,.int .i64 x.gen,.int .i64 x.role,.int .i64 x.n,.int .i64 x.s,.int .i64 x.tail,.int .i64 x.lost,.int .i64 x.xW] 71);have X:=Box.new w 71 #[.int .i64 x.id,.int .i64 x.gen,.int .i64 x.role,.int .i64 x.n,.int .i64 x.s,.int .i64 x.tail,.int .i64 x.lost,.int .i64 x.xW];obtain ⟨k0,k1,k2,k3,k4,k5,k6,k7⟩:=X.cells8;have zA:=X.lt;go_enter Tryz.func73,Tryz.ntmps73
 go_wp2_with fail
 refine (eu _ _ _).mono ?_
 rintro e w1 ⟨rfl,b1⟩;have X1:=X.below b1 zA;have B1:=Below.andThen hA b1;clear k0 k1 k2 k3 k4 k5 k6 k7 X b1 hA zA;obtain ⟨k0,k1,k2,k3,k4,k5,k6,k7⟩:=X1.cells8;by_cases hg:bL x.n x.s=true
 . obtain ⟨g1,g2,g3,g4⟩:=aB.1 hg
   have gw:IntKind.i64.wrap (x.n-1)=x.n-1:=IntWalk.i64_in _ (by omega);go_wp2_with fail
   refine (aE _ _ _ _).mono ?_
   rintro e w2 ⟨rfl,rfl⟩;by_cases h1:inB x.id 1 60000=true
   . have h1i:=aG.1 h1
     go_wp2_with fail
     refine (aE _ _ _ _).mono ?_
     rintro e w2 ⟨rfl,rfl⟩;by_cases h2:inB x.gen 0 60000=true
     . have h2i:=aG.1 h2
       go_wp2_with fail
       refine (aE _ _ _ _).mono ?_
       rintro e w2 ⟨rfl,rfl⟩;by_cases h3:inB x.role 0 (x.n-1)=true
       . have h3i:=aG.1 h3
         go_wp2_with fail
         refine (aE _ _ _ _).mono ?_
         rintro e w2 ⟨rfl,rfl⟩;by_cases h4:inB x.tail 0 60000=true
         . have h4i:=aG.1 h4
           go_wp2_with fail
           refine (aE _ _ _ _).mono ?_
           rintro e w2 ⟨rfl,rfl⟩;by_cases h5:inB x.lost (-1) (x.n-1)=true
           . have h5i:=aG.1 h5
             go_wp2_with fail
             refine (aE _ _ _ _).mono ?_
             rintro e w2 ⟨rfl,rfl⟩;by_cases h6:inB x.xW 0 x.s=true
             . have h6i:=aG.1 h6
               clear h1 h2 h3 h4 h5 hg;go_wp2
               all_goals go_ret
               all_goals exact ⟨ah (by rw [Bool.eq_iff_iff,eV];simp;omega),B1⟩
             have h6':inB x.xW 0 x.s=false:=by simpa using h6
             have h6n:=gf.1 h6';go_wp2
             go_ret
             exact ⟨ah (by symm;refine eX (fun hc=>?_);omega),B1⟩
           have h5':inB x.lost (-1) (x.n-1)=false:=by simpa using h5
           have h5n:=gf.1 h5';go_wp2
           go_ret
           exact ⟨ah (by symm;refine eX (fun hc=>?_);omega),B1⟩
         have h4':inB x.tail 0 60000=false:=by simpa using h4
         have h4n:=gf.1 h4';go_wp2
         go_ret
         exact ⟨ah (by symm;refine eX (fun hc=>?_);omega),B1⟩
       have h3':inB x.role 0 (x.n-1)=false:=by simpa using h3
       have h3n:=gf.1 h3';go_wp2
       go_ret
       exact ⟨ah (by symm;refine eX (fun hc=>?_);omega),B1⟩
     have h2':inB x.gen 0 60000=false:=by simpa using h2
     have h2n:=gf.1 h2';go_wp2
     go_ret
     exact ⟨ah (by symm;refine eX (fun hc=>?_);omega),B1⟩
   have h1':inB x.id 1 60000=false:=by simpa using h1
   have h1n:=gf.1 h1';go_wp2
   go_ret
   exact ⟨ah (by symm;refine eX (fun hc=>?_);omega),B1⟩
 have hg':bL x.n x.s=false:=by simpa using hg
 go_wp2
 go_ret
 exact ⟨ah (by unfold ft;rw [hg'];rfl),B1⟩
theorem eC (w:World) (x:Sup):Calls Tryz.prog 83 #[.agg #[.int .i64 x.id,.int .i64 x.gen,.int .i64 x.role,.int .i64 x.n,.int .i64 x.s,.int .i64 x.tail,.int .i64 x.lost,.int .i64 x.xW]] w fun e w'=>e=.returned (.bool (ft x))/\Below w.heap.size w w':=by
 have hA:=af w (.cells #[.int .i64 x.id,.int .i64 x.gen,.int .i64 x.role,.int .i64 x.n,.int .i64 x.s,.int .i64 x.tail,.int .i64 x.lost,.int .i64 x.xW] 71);have X:=Box.new w 71 #[.int .i64 x.id,.int .i64 x.gen,.int .i64 x.role,.int .i64 x.n,.int .i64 x.s,.int .i64 x.tail,.int .i64 x.lost,.int .i64 x.xW];obtain ⟨k0,k1,k2,k3,k4,k5,k6,k7⟩:=X.cells8;have zA:=X.lt;go_enter Tryz.func83,Tryz.ntmps83
 have hA2:=Below.andThen hA (af (w.alloc (.cells #[.int .i64 x.id,.int .i64 x.gen,.int .i64 x.role,.int .i64 x.n,.int .i64 x.s,.int .i64 x.tail,.int .i64 x.lost,.int .i64 x.xW] 71)) (.cells #[.int .i64 x.n,.int .i64 x.s] 25));have X2:=X.alloc (.cells #[.int .i64 x.n,.int .i64 x.s] 25);have G2:=Box.new (w.alloc (.cells #[.int .i64 x.id,.int .i64 x.gen,.int .i64 x.role,.int .i64 x.n,.int .i64 x.s,.int .i64 x.tail,.int .i64 x.lost,.int .i64 x.xW] 71)) 25 #[.int .i64 x.n,.int .i64 x.s];rw [World.size_alloc] at G2;obtain ⟨j0,j1⟩:=G2.cells2;obtain ⟨i0,i1,i2,i3,i4,i5,i6,i7⟩:=X2.cells8;go_wp2_with fail
 generalize (w.alloc (.cells #[.int .i64 x.id,.int .i64 x.gen,.int .i64 x.role,.int .i64 x.n,.int .i64 x.s,.int .i64 x.tail,.int .i64 x.lost,.int .i64 x.xW] 71)).alloc (.cells #[.int .i64 x.n,.int .i64 x.s] 25)=W at hA2 X2 G2 i0 i1 i2 i3 i4 i5 i6 i7 j0 j1 ⊢;have zX:=X2.lt;have zG:=G2.lt;refine (dQ _ _ _).mono ?_
 rintro e w1 ⟨rfl,b1⟩;have X1:=X2.below b1 zX;have G1:=G2.below b1 zG;have B1:=Below.andThen hA2 b1;clear k0 k1 k2 k3 k4 k5 k6 k7 i0 i1 i2 i3 i4 i5 i6 i7 j0 j1 X hA zA b1 hA2 X2 G2 zX zG;obtain ⟨k0,k1,k2,k3,k4,k5,k6,k7⟩:=X1.cells8;obtain ⟨j0,j1⟩:=G1.cells2;by_cases hg:bL x.n x.s=true
 . obtain ⟨g1,g2,g3,g4⟩:=aB.1 hg
   have gw:IntKind.i64.wrap (x.n-1)=x.n-1:=IntWalk.i64_in _ (by omega);go_wp2_with fail
   refine (nh _ _ _ _ _ ⟨g1,g2⟩).mono ?_
   rintro e w2 ⟨rfl,b2⟩;have X3:=X1.below b2 X1.lt;have G3:=G1.below b2 G1.lt;have B3:=Below.andThen B1 b2;clear k0 k1 k2 k3 k4 k5 k6 k7 j0 j1 X1 G1 B1 b2;obtain ⟨k0,k1,k2,k3,k4,k5,k6,k7⟩:=X3.cells8;obtain ⟨j0,j1⟩:=G3.cells2;by_cases hl:ii x.n x.s x.lost x.xW=true
   . have hli:=lm.1 hl
     go_wp2_with fail
     refine (cg _ _ _ _).mono ?_
     rintro e w4 ⟨rfl,rfl⟩;by_cases h1:inB x.role 0 (x.n-1)=true
     . have h1i:=aG.1 h1
       go_wp2_with fail
       refine (cg _ _ _ _).mono ?_
       rintro e w4 ⟨rfl,rfl⟩;by_cases h2:inB x.id 1 60000=true
       . have h2i:=aG.1 h2
         go_wp2_with fail
         refine (cg _ _ _ _).mono ?_
         rintro e w4 ⟨rfl,rfl⟩;by_cases h3:inB x.gen 0 60000=true
         . have h3i:=aG.1 h3
           go_wp2_with fail
           refine (cg _ _ _ _).mono ?_
           rintro e w4 ⟨rfl,rfl⟩;go_wp2
           go_ret
           exact ⟨ah (by unfold ft;rw [hg,hl,h1,h2,h3];rfl),B3⟩
         have h3':inB x.gen 0 60000=false:=by simpa using h3
         have h3n:=gf.1 h3';go_wp2
         go_ret
         exact ⟨ah (by symm;refine eX (fun hc=>?_);omega),B3⟩
       have h2':inB x.id 1 60000=false:=by simpa using h2
       have h2n:=gf.1 h2';go_wp2
       go_ret
       exact ⟨ah (by symm;refine eX (fun hc=>?_);omega),B3⟩
     have h1':inB x.role 0 (x.n-1)=false:=by simpa using h1
     have h1n:=gf.1 h1';go_wp2
     go_ret
     exact ⟨ah (by symm;refine eX (fun hc=>?_);omega),B3⟩
   have hl':ii x.n x.s x.lost x.xW=false:=by simpa using hl
   go_wp2
   go_ret
   exact ⟨ah (by unfold ft;rw [hg,hl'];rfl),B3⟩
 have hg':bL x.n x.s=false:=by simpa using hg
 go_wp2
 go_ret
 exact ⟨ah (by unfold ft;rw [hg'];rfl),B1⟩
theorem np {w:World} {v:Value} {zs:List Int} {f:List Nat} (h:aD.ow w [v] zs f):(v=.slice none 0 0/\zs=[]/\f=[])∨∃g cap,v=.slice (some ⟨g,0,none⟩) zs.length cap/\f=[g]/\Go.Proofs.YtgjomldcnjjpaaaGreat.Own .i64 3 w g (g+1) v zs:=by
 rcases h with ⟨h1,h2,h3⟩|⟨b,cap,cur,fps,h1,h2,h3,h4,h5,h6,h7,h8⟩
 . exact .inl ⟨by simpa using h1,h2,h3⟩
 have hv:v=.slice (some ⟨b,0,none⟩) zs.length cap:=by simpa using h1
 have hfl:fps.flatten=[]:=by
  rw [List.flatten_eq_nil_iff];intro f' hf';obtain ⟨i,hi⟩:=List.mem_iff_getElem?.1 hf';have hil:i<zs.length:=by rw [←h7];exact (List.getElem?_eq_some_iff.1 hi).1
  obtain ⟨f2,hf2,_,h10⟩:=h8 i _ (List.getElem?_eq_getElem hil);rw [hi] at hf2;simp at hf2
  rw [hf2];exact h10
 have h5':cur.size=cap*1:=h5;refine .inr ⟨b,cap,hv,by rw [h6,hfl],⟨by simp,.inr ⟨b,cap,cur,hv,Nat.le_refl _,h4,h2,by unfold maxLen;exact h3,h5',?_⟩⟩,fun g hg=>by rw [hv] at hg;simp [Value.ownBlock] at hg;omega⟩
 apply List.ext_getElem?
 intro i;rw [List.getElem?_take,List.getElem?_map];by_cases hi:i<zs.length
 . obtain ⟨f2,_,h9,_⟩:=h8 i _ (List.getElem?_eq_getElem hi)
   have h9':(cur.toList.drop (i*1)).take 1=[.int .i64 zs[i]]:=h9;have:((cur.toList.drop (i*1)).take 1)[0]?=some (.int .i64 zs[i]):=by rw [h9'];rfl
   rw [List.getElem?_take,if_pos (by omega),List.getElem?_drop] at this;rw [if_pos (by omega),List.getElem?_eq_getElem hi];simpa using this
 rw [if_neg (by omega),List.getElem?_eq_none (by omega)];rfl
def cX (zs:List Int) (n:Int):List Int:=zs.filter fun x=>decide (x≠n)
theorem pS {zs:List Int} {n:Int} (h:∀x∈zs,x≠n):cX zs n=zs:=by
 unfold cX;rw [List.filter_eq_self];intro x hx;simp [h x hx]
theorem iq (zs:List Int) (x n:Int):cX (zs++[x]) n=if x=n then cX zs n else cX zs n++[x]:=by
 unfold cX;rw [List.filter_append];by_cases h:x=n<;>simp [h]
theorem ma (zs:List Int) (n:Int):(cX zs n).length<=zs.length:=List.length_filter_le _ _
theorem ja {w:World} {g n cap:Nat} {zs:List Int} (h:Own .i64 3 w g (g+1) (.slice (some ⟨g,0,none⟩) n cap) zs):aD.Own w g (g+1) [.slice (some ⟨g,0,none⟩) n cap] zs:=by
 obtain ⟨fp,m1,m2⟩:=jq h.1;exact m1.own (fun b hb=>by
  have:=(m2 b hb).1;simp [Value.ownBlock] at this
  omega)
theorem Own.zeros {g n cap:Nat}:∀(k i:Nat) (w:World) (L:List Int),Own .i64 3 w g (g+1) (.slice (some ⟨g,0,none⟩) n cap) L->i+k<=n->∃L',Own .i64 3 (w.setCells g i (List.replicate k (.int .i64 0))) g (g+1) (.slice (some ⟨g,0,none⟩) n cap) L'/\L'.take i=L.take i/\But g (g+1) w (w.setCells g i (List.replicate k (.int .i64 0)))
 | 0,i,w,L,h,_=>⟨L,h,rfl,But.refl _ _ _⟩
 | k+1,i,w,L,h,hk=>by
  obtain ⟨_,_,h1,h2⟩:=h.store i (by omega) 0;obtain ⟨L',h3,h4,h5⟩:=Own.zeros k (i+1) _ _ h1 (by omega);refine ⟨L',h3,?_,h2.trans h5⟩
  have:=congrArg (List.take i) h4;rw [List.take_take,List.take_take,Nat.min_eq_left (by omega)] at this;rw [this];apply List.ext_getElem?
  intro m;rw [List.getElem?_take,List.getElem?_take];by_cases hm:m<i
  . rw [if_pos hm,if_pos hm,List.getElem?_set_ne (by omega)]
  rw [if_neg hm,if_neg hm]
theorem Own.cut {w:World} {g n cap i:Nat} {L:List Int} (h:Own .i64 3 w g (g+1) (.slice (some ⟨g,0,none⟩) n cap) L) (hi:i<=n):Own .i64 3 w g (g+1) (.slice (some ⟨g,0,none⟩) i cap) (L.take i):=by
 have hl:=h.length;obtain ⟨h1,h2⟩:=h;refine ⟨⟨by simp,?_⟩,fun b hb=>by simp [Value.ownBlock] at hb;omega⟩
 rcases h1.2 with ⟨hv,_⟩|⟨g',cap',cur,hv,hb,hg,hnc,hcm,hcs,ht⟩
 . simp at hv
 simp only [Value.slice.injEq,Option.some.injEq,Addr.mk.injEq,and_true] at hv
 obtain ⟨rfl,hv2,rfl⟩:=hv;refine .inr ⟨g,cap,cur,by rw [List.length_take,Nat.min_eq_left (by omega)],hb,hg,by rw [List.length_take];omega,hcm,hcs,?_⟩
 rw [List.length_take,Nat.min_eq_left (by omega),List.map_take,←ht,List.take_take,hl];congr 1
 omega
theorem tN (w:World) (b n:Int) (B:Nat) (hc:w.cell? ⟨B,0,none⟩=some (.int .i64 n)):
 Calls Tryz.prog 90 #[.int .i64 b,.pointer (some ⟨B,0,none⟩)] w fun e w'=>e=.returned (.bool (decide (b=n)))/\aP w w':=by
 go_enter Tryz.func90,Tryz.ntmps90
 go_wp2
 go_ret
 exact ⟨ah (by by_cases h:b=n<;>simp [h]),aP.refl _⟩
theorem oX (w:World) (a:Option Addr) (len cap:Nat) (zs:List Int) (n:Int) (B:Nat) (hc:w.cell? ⟨B,0,none⟩=some (.int .i64 n)) (hz:zs.length=len) (hr:aJ .i64 w a zs) (hlen:len<=2097152):
 Calls Tryz.prog 107 #[.slice a len cap,.func (Fn.func 90) #[] #[.pointer (some ⟨B,0,none⟩)]] w fun e w'=>((e=.returned (.int .i64 (-1))/\∀x∈zs,x≠n)∨∃j,j<len/\e=.returned (.int .i64 j)/\zs[j]?=some n/\∀x∈zs.take j,x≠n)/\aP w w':=by
 go_enter Tryz.func107,Tryz.ntmps107
 go_wp2
 go_loopw [8] (fun i wr=>∃j:Nat,j<=len/\i=.int .i64 j/\(∀x∈zs.take j,x≠n)/\aP w wr) (fun i _=>len-(intOf i).toNat)
 case atStart=>exact ⟨0,Nat.zero_le _,rfl,by simp,aP.refl _⟩
 obtain ⟨j,hj,rfl,ht,hs⟩:=hrel;by_cases hlt:j<len
 . rcases hr.cases with h0|⟨b,off,rfl,hbl,hcz⟩
   . omega
   have hc1:=(hs.cell _).trans (hcz j (by omega));have hx:zs[j]?=some (zs.getD j 0):=by rw [List.getD_eq_getElem?_getD,List.getElem?_eq_getElem (by omega)];rfl
   have htk:zs.take (j+1)=zs.take j++[zs.getD j 0]:=by rw [List.take_add_one,hx];rfl
   generalize zs.getD j 0=x at hc1 hx htk;have hcc:=(hs.cell ⟨B,0,none⟩).trans hc;have HT:=aa ht;have HTK:=aa htk;have HX:=aa hx;clear hcz ht htk hx;go_wp2_with fail
   refine (tN _ _ n B hcc).mono ?_
   rintro e w1 ⟨rfl,hs1⟩;by_cases hxn:x=n
   . subst hxn
     have hd:decide (x=x)=true:=by simp
     go_wp2
     go_ret
     exact ⟨.inr ⟨j,hlt,rfl,HX.out,HT.out⟩,hs.trans hs1⟩
   have hd:decide (x=n)=false:=by simp [hxn]
   go_wp2
   go_roundw
   case rel=>exact ⟨j+1,by omega,by go_num,by
    rw [HTK.out];intro y hy;rcases List.mem_append.1 hy with hy|hy
    . exact HT.out y hy
    simp at hy
    rw [hy];exact hxn,hs.trans hs1⟩
   case measure=>simp [intOf];omega
 go_wp2
 go_ret
 have e:j=len:=by omega
 subst e;rw [List.take_of_length_le (by omega)] at ht;exact ⟨.inl ⟨rfl,ht⟩,hs⟩
theorem nt (w:World) (lo hi:Nat) (a:Option Addr) (len cap:Nat) (zs:List Int) (n:Int) (B:Nat) (h:aD.Own w lo hi [.slice a len cap] zs) (hc:w.cell? ⟨B,0,none⟩=some (.int .i64 n)) (hB:B<lo∨hi<=B) (hlen:len<=2097152):
 Calls Tryz.prog 89 #[.slice a len cap,.func (Fn.func 90) #[] #[.pointer (some ⟨B,0,none⟩)]] w fun e w'=>∃a' c',e=.returned (.slice a' (cX zs n).length c')/\aD.Own w' lo hi [.slice a' (cX zs n).length c'] (cX zs n)/\But lo hi w w':=by
 obtain ⟨hr,hl,_,_⟩:=aR h.rd;go_enter Tryz.func89,Tryz.ntmps89
 go_wp2_with fail
 refine (oX _ _ _ _ zs n B hc hl hr hlen).mono ?_
 rintro e w1 ⟨hcase,hs1⟩;rcases hcase with ⟨rfl,hnone⟩|⟨i,hi1,rfl,hxi,hpre⟩
 . have HF:=aa (pS hnone)
   have H1:=aa (h.same hs1);have HB:=aa (But.of_below (lo:=lo) (hi:=hi) (hs1.below _));clear hnone;go_wp2
   go_ret
   exact ⟨a,cap,by rw [HF.out,hl];rfl,by rw [HF.out,hl];exact H1.out,HB.out⟩
 obtain ⟨g,hgl,hgh,rfl,ho⟩:∃g,lo<=g/\g<hi/\a=some ⟨g,0,none⟩/\Own .i64 3 w g (g+1) (.slice (some ⟨g,0,none⟩) len cap) zs:=by
  obtain ⟨fp,hm,hfr⟩:=h.mine;rcases np hm.1 with ⟨hv,_,_⟩|⟨g,cap',hv,hf,ho⟩
  . simp at hv
    omega
  simp only [Value.slice.injEq] at hv
  obtain ⟨rfl,rfl,rfl⟩:=hv;have:=hfr g (by rw [hf];simp);exact ⟨g,this.1,this.2,rfl,ho⟩
 have hcap:len<=cap:=(ag h.rd).2.1;have hcm:cap<=9223372036854775807:=(ag h.rd).2.2;have hBs:B<w.heap.size:=by
  rcases Nat.lt_or_ge B w.heap.size with h'|h'
  . exact h'
  simp [World.cell?,Array.getElem?_eq_none h'] at hc
 have hBg:B≠g:=by omega
 have HST:Hid (zs.take i=cX (zs.take (i+1)) n):=by
  unfold Hid;rw [List.take_add_one,hxi];show _=cX (zs.take i++[n]) n
  rw [iq,if_pos rfl,pS hpre]
 have O1:=aa (ho.same hs1);have HB1:=aa (But.of_below (lo:=g) (hi:=g+1) (hs1.below _));clear hxi hpre ho hr;have hne:((i:Int)==-1)=false:=by simp
 have zr:∀w,(zeroValue 3).run Tryz.prog w=.ok (.int .i64 0) w:=fun w=>by kernel_rfl
 go_wp2
 go_loopw [5,6] (fun iv jv wr=>∃(j i:Nat) (L:List Int),j<=len/\jv=.int .i64 j/\iv=.int .i64 i/\i<j/\Own .i64 3 wr g (g+1) (.slice (some ⟨g,0,none⟩) len cap) L/\L.take i=cX (zs.take j) n/\L.drop j=zs.drop j/\But g (g+1) w wr) (fun _ jv _=>len-(intOf jv).toNat)
 case atStart=>exact ⟨i+1,i,zs,by omega,by go_num,rfl,by omega,O1.out,HST.out,rfl,HB1.out⟩
 obtain ⟨j,i,L,hj,rfl,rfl,hij,ho,ht,hd,hb⟩:=hrel;have hLl:=ho.length;by_cases hlt:j<len
 . have hx:zs[j]?=some (L.getD j 0):=by
    have h1:(L.drop j)[0]?=(zs.drop j)[0]?:=by rw [hd]
    rw [List.getElem?_drop,List.getElem?_drop,Nat.add_zero] at h1;rw [←h1,List.getD_eq_getElem?_getD,List.getElem?_eq_getElem (by omega)];rfl
   have htk:zs.take (j+1)=zs.take j++[L.getD j 0]:=by rw [List.take_add_one,hx];rfl
   have hcj:=(ho.store j hlt 0).1;have hdd:L.drop (j+1)=zs.drop (j+1):=by
    have:=congrArg (List.drop 1) hd;rw [List.drop_drop,List.drop_drop] at this;exact this
   have hLj:L[j]?=some (L.getD j 0):=by rw [List.getD_eq_getElem?_getD,List.getElem?_eq_getElem (by omega)];rfl
   generalize L.getD j 0=x at hx htk hcj hLj;have hcB:=(dq (hb.block B hBs (by omega)) 0).trans hc;obtain ⟨hci,hfi,hst,hbt⟩:=ho.store i (by omega) x;have hti:(L.set i x).take (i+1)=L.take i++[x]:=by
    rw [List.take_add_one,List.getElem?_set_self (by omega)];congr 1
    apply List.ext_getElem?
    intro m;rw [List.getElem?_take,List.getElem?_take];by_cases hm:m<i
    . rw [if_pos hm,if_pos hm,List.getElem?_set_ne (by omega)]
    rw [if_neg hm,if_neg hm]
   have hdi:(L.set i x).drop (j+1)=L.drop (j+1):=by
    apply List.ext_getElem?
    intro m;rw [List.getElem?_drop,List.getElem?_drop,List.getElem?_set_ne (by omega)]
   generalize L.getD i 0=y at hci;have HO:=aa ho;have HT:=aa ht;have HD:=aa hdd;have HTK:=aa htk;have HST2:=aa hst;have HBT:=aa hbt;have HTI:=aa hti;have HDI:=aa hdi;have HB:=aa hb;clear ho ht hd hdd htk hst hbt hti hdi hb hx hLj;go_wp2_with fail
   refine (tN _ _ n B hcB).mono ?_
   rintro e w2 ⟨rfl,hs2⟩;have hci2:=(hs2.cell _).trans hci;have hfi2:w2.frozen? ⟨g,i,none⟩=false:=by rw [←hfi];exact World.frozen?_of_block (by rw [hs2.heap])
   by_cases hxn:x=n
   . subst hxn
     have hdc:decide (x=x)=true:=by simp
     go_wp2
     go_roundw
     case rel=>exact ⟨j+1,i,L,by omega,by go_num,rfl,by omega,HO.out.same hs2,by rw [HTK.out,iq,if_pos rfl];exact HT.out,HD.out,HB.out.trans (But.of_below (hs2.below _))⟩
     case measure=>simp [intOf];omega
   have hdc:decide (x=n)=false:=by simp [hxn]
   have OS:=aa ((HO.out.same hs2).store i (by omega) x);go_wp2
   go_roundw
   case rel=>exact ⟨j+1,i+1,L.set i x,by omega,by go_num,by go_num,by omega,OS.out.2.2.1,by rw [HTI.out,HTK.out,iq,if_neg hxn,HT.out],by rw [HDI.out];exact HD.out,(HB.out.trans (But.of_below (hs2.below _))).trans OS.out.2.2.2⟩
   case measure=>simp [intOf];omega
 have e:len=j:=by omega
 subst e;rw [List.take_of_length_le (l:=zs) (by omega)] at ht;have hil:i=(cX zs n).length:=by rw [←ht,List.length_take];omega
 have hclr:∀ty,(Builtin.clear_ #[42] ty #[.slice (some ⟨g,i,none⟩) (len-i) (cap-i)]).run Tryz.prog wr=.ok (.tuple #[]) (wr.setCells g i (List.replicate (len-i) (.int .i64 0))):=fun ty=>
  Go.Lib.run_clear_slice wr 42 3 ty (.int .i64 0) Tryz.underlying42 zr rfl rfl g i (len-i) (cap-i) (by omega) (fun m hm=>by rw [(ho.store (i+m) (by omega) 0).1];rfl) (fun m hm=>(ho.store (i+m) (by omega) 0).2.1)
 obtain ⟨L',o1,t1,b1⟩:=Own.zeros (len-i) i wr L ho (by omega);have o2:=o1.cut (i:=i) (by omega);rw [t1,ht] at o2;have HF:=aa ((ja o2).widen (lo':=lo) (hi':=hi) (by omega) (by omega));have HBF:=aa (hb.trans b1);have HIL:=aa hil;have k1:(0:Int)<=(i:Int):=by omega
 have k2:(i:Int)<=(len:Int):=by omega
 have k3:(len:Int)<=(cap:Int):=by omega
 clear o1 o2 t1 b1 ho ht hd hb hil;go_wp2
 go_ret
 exact ⟨some ⟨g,0,none⟩,cap,by rw [←HIL.out];rfl,by rw [←HIL.out];exact HF.out,⟨HBF.out.os,HBF.out.tape,HBF.out.output,HBF.out.size,fun k hk ho=>HBF.out.block k hk (by omega)⟩⟩
theorem oY (w:World) (a:Option Addr) (len cap:Nat) (zs:List Int) (n:Int) (h:aD.Rd w [.slice a len cap] zs) (hlen:len<=2097152):
 Calls Tryz.prog 139 #[.slice a len cap,.int .i64 n] w fun e w'=>∃v,e=.returned v/\aD.Own w' w.heap.size w'.heap.size [v] (cX zs n)/\Below w.heap.size w w':=by
 obtain ⟨hr,hl,_,_⟩:=aR h;obtain ⟨i3,hi3,hx0,hx1,hx2⟩:=info_parts Tryz.info3;go_enter Tryz.func139,Tryz.ntmps139
 go_wp2
 go_loopw [5,6] (fun v i wr=>∃(j:Nat) (fp:List Nat),j<=len/\i=.int .i64 j/\aD.Mine wr [v] (cX (zs.take j) n) fp/\(∀b∈fp,w.heap.size<=b)/\Below w.heap.size w wr) (fun _ i _=>len-(intOf i).toNat)
 case atStart=>exact ⟨0,[w.heap.size],Nat.zero_le _,rfl,ig _,by simp,(Below.refl _ _).alloc (Nat.le_refl _) _⟩
 obtain ⟨j,fp,hj,rfl,hm,hfp,hb⟩:=hrel;have hs:=hb.size;by_cases hlt:j<len
 . rcases hr.cases with h0|⟨b,off,rfl,hbl,hcz⟩
   . omega
   have hc1:=(hb.cell (p:=⟨b,off+j,none⟩) hbl).trans (hcz j (by omega));have htk:zs.take (j+1)=zs.take j++[zs.getD j 0]:=by rw [List.take_add_one,List.getD_eq_getElem?_getD,List.getElem?_eq_getElem (by omega)];rfl
   generalize zs.getD j 0=x at hc1 htk;have k1:(0:Int)<=(j:Int):=by omega
   have k2:(j:Int)<(len:Int):=by omega
   have HTK:=aa htk;clear hcz htk;by_cases hxn:x=n
   . have HF:Hid (cX (zs.take (j+1)) n=cX (zs.take j) n):=by unfold Hid;rw [HTK.out,iq,if_pos hxn]
     subst hxn;go_wp2
     go_roundw
     case rel=>exact ⟨j+1,fp,by omega,by go_num,by rw [HF.out];exact hm,hfp,hb⟩
     case measure=>simp [intOf];omega
   have HF:Hid (cX (zs.take (j+1)) n=cX (zs.take j) n++[x]):=by unfold Hid;rw [HTK.out,iq,if_neg hxn]
   have MA:=aa (hm.alloc (.cells #[.int .i64 x] 3));have LI:Hid (eT.Mine (wr.alloc (.cells #[.int .i64 x] 3)) [.int .i64 x] x []):=⟨⟨rfl,rfl⟩,by simp⟩;have NN:=aa (bN wr #[.int .i64 x] 3);have BA:=aa (hb.alloc hs (.cells #[.int .i64 x] 3));have ZA:Hid ((wr.alloc (.cells #[.int .i64 x] 3)).heap.size=wr.heap.size+1):=by unfold Hid;simp
   have hkl:=ma (zs.take j) n;rw [List.length_take] at hkl;have L1:Hid ((cX (zs.take j) n).length+1<=maxLen):=by unfold Hid maxLen;omega
   have L2:Hid (((cX (zs.take j) n).length+1)*8<=140737488355328):=by unfold Hid;omega
   have HFP:=aa hfp;clear hm hfp hb hkl;go_wp2_with (at_builtin;refine cO eT rfl (.tmp 20) (.tmp 25) 42 rfl 3 i3 (.int .i64 0) 8 Tryz.underlying42 hi3 hx0 hx1 hx2 rfl Nat.zero_lt_one u5 (cX (zs.take j) n) fp rfl ?_ ⟨wr.heap.size,0,none⟩ 1 [.int .i64 x] x [] rfl ?_ ?_ ?_ ?_ ?_ ?_ ?_;exact MA.out;exact LI.out;simp;exact NN.out;(intro u hu;simp at hu;rw [hu];rfl);exact L1.out;exact L2.out;intro v2 w2 fp2 m1 m2 m3;rw [←HF.out] at m1;have M1:=aa m1;have M2:=aa m2;have M3:=aa m3;clear m1 m2 m3)
   have hf2:∀b∈fp2,w.heap.size<=b:=fun b hb=>by
    rcases M2.out b hb with h|h|h
    . exact HFP.out b h
    . simp at h
    have h1:=h.1;have h2:=ZA.out;omega
   have HB:=aa (BA.out.trans (M3.out.below (N:=w.heap.size) (by have:=ZA.out;omega) (fun b hb=>HFP.out b hb)));have HF2:=aa hf2;clear hf2;go_roundw
   case rel=>exact ⟨j+1,fp2,by omega,by go_num,M1.out,HF2.out,HB.out⟩
   case measure=>simp [intOf];omega
 have e:j=len:=by omega
 subst e;rw [List.take_of_length_le (by omega)] at hm;have hltb:=hm.lt;have HO:=aa (hm.own (lo:=w.heap.size) (hi:=wr.heap.size) (fun b hb'=>⟨hfp b hb',hltb b hb'⟩));go_wp2
 go_ret
 exact ⟨_,rfl,HO.out,hb⟩
theorem jK (w:World) (a:Option Addr) (len cap:Nat) (zs:List Int) (hz:zs.length=len) (hr:aJ .i64 w a zs) (hlen:len<=2097152):
 Calls Tryz.prog 158 #[.slice a len cap] w fun e w'=>e=.returned (.int .i64 (fJ zs))/\aP w w':=by
 go_enter Tryz.func158,Tryz.ntmps158
 go_wp2_with fail
 refine (pb _ _ _ _ zs hz hr hlen).mono ?_
 rintro e w1 ⟨rfl,hs⟩;go_wp2
 go_ret
 exact ⟨rfl,hs⟩
theorem jy (w:World) (a:Option Addr) (len cap:Nat) (zs:List Int) (k:Int) (hz:zs.length=len) (hr:aJ .i64 w a zs) (hlen:len<=2097152):
 Calls Tryz.prog 144 #[.slice a len cap,.int .i64 k] w fun e w'=>e=.returned (.int .i64 (dO zs k len))/\aP w w':=by
 have HS:Hid (dO zs k len=if 0<=k/\k<len then bits BinOp.xor IntKind.i64 (fJ zs) (zs.getD k.toNat 0) else fJ zs):=by unfold Hid;rw [←hz];exact vK zs k
 go_enter Tryz.func144,Tryz.ntmps144
 go_wp2_with fail
 refine (jD _ _ _ _ zs hz hr hlen).mono ?_
 rintro e w1 ⟨rfl,hs⟩;by_cases h0:0<=k
 . by_cases h1:k<len
   . obtain ⟨k,rfl⟩:=Int.eq_ofNat_of_zero_le h0
     rcases hr.cases with h2|⟨b,off,rfl,hbl,hc⟩
     . omega
     have hc1:=(hs.cell ⟨b,off+k,none⟩).trans (hc k (by omega));have HE:Hid (dO zs k len=bits BinOp.xor IntKind.i64 (fJ zs) (zs.getD k 0)):=by unfold Hid;rw [HS.out,if_pos ⟨h0,h1⟩,Int.toNat_natCast]
     clear hc HS;generalize zs.getD k 0=x at hc1 HE;go_wp2
     go_ret
     exact ⟨aF HE.out.symm,hs⟩
   have HE:Hid (dO zs k len=fJ zs):=by unfold Hid;rw [HS.out,if_neg (by omega)]
   go_wp2
   go_ret
   exact ⟨aF HE.out.symm,hs⟩
 have HE:Hid (dO zs k len=fJ zs):=by unfold Hid;rw [HS.out,if_neg (by omega)]
 go_wp2
 go_ret
 exact ⟨aF HE.out.symm,hs⟩
theorem jz (w:World) (a:Option Addr) (len cap:Nat) (zs:List Int) (k:Int) (hz:zs.length=len) (hr:aJ .i64 w a zs) (hlen:len<=2097152):
 Calls Tryz.prog 151 #[.slice a len cap,.int .i64 k] w fun e w'=>e=.returned (.int .i64 (dO zs k len))/\aP w w':=by
 go_enter Tryz.func151,Tryz.ntmps151
 go_wp2
 go_loop [5,6] (fun n i=>∃j:Nat,j<=len/\i=.int .i64 j/\n=.int .i64 (dO zs k j)) (fun _ i=>len-(intOf i).toNat)
 case atStart=>exact ⟨0,Nat.zero_le _,rfl,rfl⟩
 obtain ⟨j,hj,rfl,rfl⟩:=hrel;by_cases hlt:j<len
 . have hs:=jJ zs k j
   by_cases hk:(j:Int)=k
   . have hkb:((j:Int)==k)=true:=by simpa using hk
     have HX:Hid (dO zs k (j+1)=dO zs k j):=by unfold Hid;rw [hs,if_pos hk]
     clear hs;go_wp2
     go_round
     case rel=>exact ⟨j+1,by omega,by go_num,by rw [HX.out]⟩
     case measure=>simp [intOf];omega
   have hkb:((j:Int)==k)=false:=by simpa using hk
   have HX:Hid (dO zs k (j+1)=bits BinOp.xor IntKind.i64 (dO zs k j) (zs.getD j 0)):=by unfold Hid;rw [hs,if_neg hk]
   clear hs;rcases hr.cases with h0|⟨b,off,rfl,hbl,hc⟩
   . omega
   have hc1:=hc j (by omega);generalize zs.getD j 0=x at hc1 HX;clear hc;go_wp2
   go_round
   case rel=>exact ⟨j+1,by omega,by go_num,by rw [HX.out]⟩
   case measure=>simp [intOf];omega
 go_wp2
 go_ret
 have e:j=len:=by omega
 subst e;exact ⟨rfl,aP.refl _⟩
def lenC (o k:Int) (zs:List Int):Int:=if o=1∨o=6 then k else if o=2∨o=3 then (zs.length:Int) else if o=5 then 1 else 0
theorem lK {o k:Int} {zs:List Int} (h:¬(o=1∨o=6)) (h2:¬(o=2∨o=3)) (h5:¬o=5):lenC o k zs=0:=by unfold lenC;rw [if_neg h,if_neg h2,if_neg h5]
def over (ls:List Int) (b:Nat) (zs:List Int):List Int:=ls.take b++(zs++ls.drop (b+zs.length))
end Go.Proofs.YtgjomldcnjjpaaaGreat

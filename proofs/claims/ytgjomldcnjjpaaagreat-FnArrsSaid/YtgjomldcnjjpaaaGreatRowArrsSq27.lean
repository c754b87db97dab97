/-
 The walk of the specification's l8Put: an entry put in its place. Condition: at most 500000 entries.
-/
import Derived.Test.YtgjomldcnjjpaaaGreatRowArrsSq19

set_option maxRecDepth 100000
set_option maxHeartbeats 8000000
set_option linter.unusedSimpArgs false

namespace Go.Proofs.YtgjomldcnjjpaaaGreat
open Go.RowKit

theorem tV {e d:aH} {L:List aH} (_:e.1<=d.1) (h2:d.1=e.1):fP e (L,false) d=(L++[e],true):=by simp [fP,h2]
theorem tW {e d:aH} {L:List aH} (h1:e.1<=d.1) (h2:¬d.1=e.1):fP e (L,false) d=(L++[e]++[d],true):=by simp [fP,h1,h2]
theorem tX {e d:aH} {L:List aH} (h1:¬e.1<=d.1) (h2:¬d.1=e.1):fP e (L,false) d=(L++[d],false):=by simp [fP,h1,h2]
theorem xx {e d:aH} {L:List aH} (h2:d.1=e.1):fP e (L,true) d=(L,true):=by simp [fP,h2]
theorem tY {e d:aH} {L:List aH} (h2:¬d.1=e.1):fP e (L,true) d=(L++[d],true):=by simp [fP,h2]
def gQ (fps:List (List Nat)) (fe:List Nat) (j:Nat) (dn:Bool) (fT:List Nat):Prop:=∀b∈fT,(dn=true/\b∈fe)∨∃i f,i<j/\fps[i]?=some f/\b∈f
theorem gQ.next {fps:List (List Nat)} {fe:List Nat} {j:Nat} {dn:Bool} {fT:List Nat} (h:gQ fps fe j dn fT):gQ fps fe (j+1) dn fT:=fun b hb=>by
 rcases h b hb with h1|⟨i,f,h1,h2⟩
 . exact .inl h1
 exact .inr ⟨i,f,by omega,h2⟩
theorem gQ.entry {fps:List (List Nat)} {fe:List Nat} {j:Nat} {fT:List Nat} (h:gQ fps fe j false fT):gQ fps fe j true (fT++fe):=fun b hb=>by
 rcases List.mem_append.1 hb with hb|hb
 . rcases h b hb with ⟨h1,_⟩|h1
   . cases h1
   exact .inr h1
 exact .inl ⟨rfl,hb⟩
theorem gQ.elem {fps:List (List Nat)} {fe f:List Nat} {j:Nat} {dn:Bool} {fT:List Nat} (h:gQ fps fe j dn fT) (hf:fps[j]?=some f):gQ fps fe (j+1) dn (fT++f):=fun b hb=>by
 rcases List.mem_append.1 hb with hb|hb
 . exact h.next b hb
 exact .inr ⟨j,f,by omega,hf,hb⟩
theorem fK {w wr w1 w2:World} {fT f fp:List Nat} {N:Nat} (hT:aA fT w wr) (h1:Below wr.heap.size wr w1) (h2:aA fp w1 w2) (hfp:∀b∈fp,b∈fT∨N<=b) (hN:w.heap.size<=N):aA (fT++f) w w2:=
 ⟨h2.os.trans (h1.os.trans hT.os),h2.tape.trans (h1.tape.trans hT.tape),h2.output.trans (h1.output.trans hT.output),Nat.le_trans hT.size (Nat.le_trans h1.size h2.size),fun k hk hn=>by
  have hk1:k<wr.heap.size:=Nat.lt_of_lt_of_le hk hT.size;rw [h2.block k (Nat.lt_of_lt_of_le hk1 h1.size) (fun hm=>by
   rcases hfp k hm with h|h
   . exact hn (List.mem_append_left _ h)
   omega),h1.block k hk1,hT.block k hk (fun hm=>hn (List.mem_append_left _ hm))]⟩
theorem lH {w1 w2:World} {fT f fp fp2:List Nat} {N:Nat} (hfp:∀b∈fp,b∈fT∨N<=b) (h2:∀b∈fp2,b∈fp∨b∈f∨(b=w1.heap.size/\b<w2.heap.size)) (hN:N<=w1.heap.size):∀b∈fp2,b∈fT++f∨N<=b:=fun b hb=>by
 rcases h2 b hb with h|h|h
 . rcases hfp b h with h|h
   . exact .inl (List.mem_append_left _ h)
   exact .inr h
 . exact .inl (List.mem_append_right _ h)
 exact .inr (by omega)
theorem uF (w:World) (B:Nat) (x:aq) (ms:List ai) (ds:List aH) (fm fd:List Nat) (h:aK w B x ms ds fm fd) (y:Int) (av:Option Addr) (cv:Nat) (ys:List Int) (fe:List Nat) (he:aD.Mine w [.slice av ys.length cv] ys fe) (he0:B∉fe) (he1:∀b∈fe,b∉fm) (he2:∀b∈fe,b∉fd) (hl:ds.length<=500000):
 Calls Tryz.prog 130 #[.pointer (some ⟨B,0,none⟩),.agg #[.int .i64 y,.slice av ys.length cv]] w fun e w'=>e=.returned (.tuple #[])/\∃fd',aK w' B x ms (mT ds (y,ys)) fm fd'/\aA (B :: (fd++fe)) w w'/\∀b∈fd',b∈fd∨b∈fe∨w.heap.size<=b:=by
 obtain ⟨i4,hi4,hz0,hz1,hz2⟩:=info_parts Tryz.infoEnt;obtain ⟨bm,bd,cm,cd,X,hm,hd,hr,r1,r2⟩:=h;obtain ⟨fps,g1,g2,g3,g4⟩:=lG hd;have hdx:=(ag hd.rd).2;have zB:=X.lt;have k9:w.cell? ⟨B,9,none⟩=some (.slice bd ds.length cd):=by unfold bH at X;exact X.cells13.2.2.2.2.2.2.2.2.2.1
 have hel:=he.lt;have hdl:=hd.lt;have hml:=hm.lt;have HX:=aa X;have HM:=aa hm;have HR:=aa hr;have NB:Hid (∀j dn fT,gQ fps fe j dn fT->B∉fT):=fun j dn fT hi hm=>by
  rcases hi B hm with ⟨_,h1⟩|⟨i,f,_,h2,h3⟩
  . exact he0 h1
  exact r2 (g3 B (List.mem_flatten.2 ⟨f,List.mem_of_getElem? h2,h3⟩))
 have NM:Hid (∀j dn fT,gQ fps fe j dn fT->∀b∈fm,b∉fT):=fun j dn fT hi b hb hm=>by
  rcases hi b hm with ⟨_,h1⟩|⟨i,f,_,h2,h3⟩
  . exact he1 b h1 hb
  exact hr b hb (g3 b (List.mem_flatten.2 ⟨f,List.mem_of_getElem? h2,h3⟩))
 have NF:Hid (∀j dn fT f,gQ fps fe j dn fT->fps[j]?=some f->∀b∈f,b∉fT):=fun j dn fT f hi hf b hb hm=>by
  rcases hi b hm with ⟨_,h1⟩|⟨i,f2,h4,h2,h3⟩
  . exact he2 b h1 (g3 b (List.mem_flatten.2 ⟨f,List.mem_of_getElem? hf,hb⟩))
  exact (eU g2 hf).2.2 i f2 h2 (by omega) b h3 hb
 have NE:Hid (∀j fT,gQ fps fe j false fT->∀b∈fe,b∉fT):=fun j fT hi b hb hm=>by
  rcases hi b hm with ⟨h1,_⟩|⟨i,f2,h4,h2,h3⟩
  . cases h1
  exact he2 b hb (g3 b (List.mem_flatten.2 ⟨f2,List.mem_of_getElem? h2,h3⟩))
 have NT:Hid (∀j dn fT,gQ fps fe j dn fT->∀b∈fT,b∈fd∨b∈fe):=fun j dn fT hi b hm=>by
  rcases hi b hm with ⟨_,h1⟩|⟨i,f2,h4,h2,h3⟩
  . exact .inr h1
  exact .inl (g3 b (List.mem_flatten.2 ⟨f2,List.mem_of_getElem? h2,h3⟩))
 have NG:Hid (∀j dn fT (g:Nat),gQ fps fe j dn fT->j<=ds.length->bd=some ⟨g,0,none⟩->g∈fd->g∉fT):=fun j dn fT g hi hj hb hgd hm=>by
  rcases hi g hm with ⟨_,h1⟩|⟨i,f2,h4,h2,h3⟩
  . exact he2 g h1 hgd
  obtain ⟨f',g',_,_,hf',hb',_,_,hn',_⟩:=g4 i _ (List.getElem?_eq_getElem (show i<ds.length by omega));rw [hb] at hb';simp at hb'
  rw [h2] at hf';simp at hf'
  exact hn' (by rw [←hf',←hb'];exact h3)
 have G4:=aa g4;have HE:=aa he;have T0:aA [] w ((w.alloc (.cells #[.int .i64 y,.slice av ys.length cv] 93)).alloc (.cells #[] 93)):=((aA.refl [] w).alloc _).alloc _;have X0:Box ((w.alloc (.cells #[.int .i64 y,.slice av ys.length cv] 93)).alloc (.cells #[] 93)) w.heap.size 93 #[.int .i64 y,.slice av ys.length cv]:=(Box.new w _ _).alloc _;have M0:=ig (t:=tWr) (E:=93) (w.alloc (.cells #[.int .i64 y,.slice av ys.length cv] 93));rw [World.size_alloc] at M0;have hzW:((w.alloc (.cells #[.int .i64 y,.slice av ys.length cv] 93)).alloc (.cells #[] 93)).heap.size=w.heap.size+1+1:=by simp
 have HT0:=aa T0;have HX0:=aa X0;have HM0:=aa M0;clear hm hd hr he T0 X0 M0 g1 g2 g3 g4 X;go_enter Tryz.func130,Tryz.ntmps130
 go_wp2
 generalize (w.alloc (.cells #[.int .i64 y,.slice av ys.length cv] 93)).alloc (.cells #[] 93)=W0 at HT0 HX0 HM0 hzW ⊢;go_loopw [4,5,6] (fun v d i wr=>∃(j:Nat) (fp fT:List Nat),j<=ds.length/\i=.int .i64 j/\d=.bool (gj ds (y,ys) j).2/\(aW 93).Mine wr [v] (gj ds (y,ys) j).1 fp/\(∀b∈fp,b∈fT∨w.heap.size+1<=b)/\gQ fps fe j (gj ds (y,ys) j).2 fT/\aA fT w wr/\Box wr w.heap.size 93 #[.int .i64 y,.slice av ys.length cv]/\w.heap.size+1+1<=wr.heap.size) (fun _ _ i _=>ds.length-(intOf i).toNat)
 case atStart=>exact ⟨0,[w.heap.size+1],[],Nat.zero_le _,rfl,rfl,HM0.out,by simp,fun b hb=>by simp at hb,HT0.out,HX0.out,by omega⟩
 obtain ⟨j,fp,fT,hj,rfl,rfl,hmo,hfp,hin,hT,hxe,hzr⟩:=hrel;have hlq:=rL ds (y,ys) j hj;by_cases hjn:j<ds.length
 . have i1:(0:Int)<=(j:Int):=by omega
   have i2:(j:Int)<(ds.length:Int):=by omega
   have hdj:ds[j]?=some (ds[j]'hjn):=List.getElem?_eq_getElem hjn;generalize ds[j]'hjn=d at hdj;obtain ⟨f,g,a,c,hf,hbd,hgl,hgd,hgf,c0,c1,hMD⟩:=G4.out j d hdj;obtain ⟨z,zs⟩:=d;dsimp only at c0 c1 hMD
   have hfl:=hMD.lt;have HS:=aa (pX (e:=(y,ys)) hdj);have HC:Hid (∀W j' dn fT,gQ fps fe j' dn fT->j'<=ds.length->aA fT w W->W.cell? ⟨B,9,none⟩=some (.slice bd ds.length cd)/\W.cell? ⟨g,j*2,none⟩=some (.int .i64 z)/\W.cell? ⟨g,j*2+1,none⟩=some (.slice a zs.length c)):=fun W j' dn fT hi hj' hT=>⟨(World.cell?_of_block (w:=w) (hT.block B zB (NB.out _ _ _ hi))).trans k9,(World.cell?_of_block (w:=w) (hT.block g hgl (NG.out _ _ _ _ hi hj' hbd hgd))).trans c0,(World.cell?_of_block (w:=w) (hT.block g hgl (NG.out _ _ _ _ hi hj' hbd hgd))).trans c1⟩;subst hbd;generalize hq:gj ds (y,ys) j=q at hmo hin hlq HS ⊢;obtain ⟨L,dn⟩:=q;dsimp only at hmo hin hlq ⊢
   have MO:=aa hmo;have FP:=aa hfp;have INS:=aa hin;have TU:=aa hT;have XE:=aa hxe;have HMD:=aa hMD;have HF:=aa hf;clear hmo hfp hin hT hxe hMD hq c0 c1 hdj;cases dn
   . by_cases hyz:y<=z
     . have d1:decide (y<=z)=true:=by simpa using hyz
       by_cases hzy:z=y
       . have HN:Hid (gj ds (y,ys) (j+1)=(L++[(y,ys)],true)):=by unfold Hid;rw [HS.out];exact tV hyz hzy
         have nq1:(z !=y)=false:=by simp [hzy]
         have HYZ:=aa hyz;clear hzy hyz HS;obtain ⟨hc9,e0,e1⟩:=HC.out wr _ _ _ INS.out (by omega) TU.out;obtain ⟨x0,x1⟩:=XE.out.cells2;go_wp2_with fail
         go_quiet (fail)
         have sq:=(aP.refl wr).drewN nq;have MO2:=aa (MO.out.below (sq.below _));have TU2:=aa (TU.out.trans (sq.turned _));have XE2:=aa (XE.out.same sq);have zq:=Nat.le_of_eq sq.size.symm;clear sq MO TU XE hc9 e0 e1 x0 x1;generalize wr.drewN nq=wq at MO2 TU2 XE2 zq ⊢;have MO:=aa MO2.out;have TU:=aa TU2.out;have XE:=aa XE2.out;clear MO2 TU2 XE2;obtain ⟨hc9,e0,e1⟩:=HC.out wq _ _ _ INS.out (by omega) TU.out;obtain ⟨x0,x1⟩:=XE.out.cells2;have bn:=af wq (.cells #[.int .i64 y,.slice av ys.length cv] 93);have zn:(wq.alloc (.cells #[.int .i64 y,.slice av ys.length cv] 93)).heap.size=wq.heap.size+1:=by simp
         have FTL:Hid (∀b∈fT,b<w.heap.size):=fun b hb=>by rcases NT.out _ _ _ INS.out b hb with h|h;exact hdl b h;exact hel b h
         have A1:=aa (MO.out.alloc (.cells #[.int .i64 y,.slice av ys.length cv] 93));have A2:=aa (Ty.Mine.alloc (eE y (HE.out.kept TU.out (NE.out _ _ INS.out))) (.cells #[.int .i64 y,.slice av ys.length cv] 93));have NN:=aa (bN wq #[.int .i64 y,.slice av ys.length cv] 93);have DJ:Hid (∀b∈fp,b∉fe):=fun b hb hb'=>by
          rcases FP.out b hb with h|h
          . exact NE.out _ _ INS.out b hb' h
          have:=hel b hb';omega
         have L1:Hid ((L).length+1<=maxLen):=by unfold Hid maxLen;(try simp only [List.length_append,List.length_cons,List.length_nil]);omega
         have L2:Hid (((L).length+1)*32<=140737488355328):=by unfold Hid;(try simp only [List.length_append,List.length_cons,List.length_nil]);omega
         have XA:=aa (XE.out.alloc (.cells #[.int .i64 y,.slice av ys.length cv] 93));have BN:=aa bn;clear bn MO XE;go_wp2_with (at_builtin;refine cO tWr rfl _ _ 29 rfl 93 i4 (.agg #[.int .i64 0,.slice none 0 0]) 32 Tryz.underlying29 hi4 hz0 hz1 hz2 rfl Nat.zero_lt_two u4 (L) fp rfl ?_ ⟨wq.heap.size,0,none⟩ 1 [.int .i64 y,.slice av ys.length cv] (y,ys) fe rfl ?_ ?_ ?_ ?_ ?_ ?_ ?_;exact A1.out;exact A2.out;exact DJ.out;exact NN.out;(intro u hu;simp at hu;rcases hu with hu|hu<;>(rw [hu];rfl));exact L1.out;exact L2.out;intro v5 w5 fp5 m1 m2 m3;have MO:=aa m1;have O2:=aa m2;have O3:=aa m3;clear m1 m2 m3)
         have TU9:=aa (fK (f:=fe) TU.out BN.out O3.out FP.out (Nat.le_succ _));have FP9:=aa (lH (fT:=fT) (f:=fe) FP.out O2.out (by omega));have XE:=aa (XA.out.turned O3.out (fun hm=>by rcases FP.out _ hm with h|h;exact absurd (FTL.out _ h) (by omega);omega));have zz5:=O3.out.size;have INS9:=aa (gQ.entry INS.out);clear TU FP INS A1 A2 NN DJ L1 L2 XA BN O2 O3 FTL hc9 e0 e1 x0 x1;have TU:=aa TU9.out;have FP:=aa FP9.out;have INS:=aa INS9.out;clear TU9 FP9 INS9;obtain ⟨hc9,e0,e1⟩:=HC.out w5 _ _ _ INS.out (by omega) TU.out;obtain ⟨x0,x1⟩:=XE.out.cells2;go_quiet (fail)
         have sq:=(aP.refl w5).drewN nq;have MO2:=aa (MO.out.below (sq.below _));have TU2:=aa (TU.out.trans (sq.turned _));have XE2:=aa (XE.out.same sq);have zq:=Nat.le_of_eq sq.size.symm;clear sq MO TU XE hc9 e0 e1 x0 x1;generalize w5.drewN nq=w5q at MO2 TU2 XE2 zq ⊢;have MO:=aa MO2.out;have TU:=aa TU2.out;have XE:=aa XE2.out;clear MO2 TU2 XE2;obtain ⟨hc9,e0,e1⟩:=HC.out w5q _ _ _ INS.out (by omega) TU.out;obtain ⟨x0,x1⟩:=XE.out.cells2;go_wp2
         go_roundw
         case rel=>exact ⟨j+1,fp5,(fT++fe),by omega,by go_num,by rw [HN.out],by rw [HN.out];exact MO.out,FP.out,by rw [HN.out];exact INS.out.next,TU.out,XE.out,by omega⟩
         case measure=>simp [intOf];omega
       have HN:Hid (gj ds (y,ys) (j+1)=(L++[(y,ys)]++[(z,zs)],true)):=by unfold Hid;rw [HS.out];exact tW hyz hzy
       have nq1:(z !=y)=true:=by simpa using hzy
       clear hzy hyz HS;obtain ⟨hc9,e0,e1⟩:=HC.out wr _ _ _ INS.out (by omega) TU.out;obtain ⟨x0,x1⟩:=XE.out.cells2;go_wp2_with fail
       go_quiet (fail)
       have sq:=(aP.refl wr).drewN nq;have MO2:=aa (MO.out.below (sq.below _));have TU2:=aa (TU.out.trans (sq.turned _));have XE2:=aa (XE.out.same sq);have zq:=Nat.le_of_eq sq.size.symm;clear sq MO TU XE hc9 e0 e1 x0 x1;generalize wr.drewN nq=wq at MO2 TU2 XE2 zq ⊢;have MO:=aa MO2.out;have TU:=aa TU2.out;have XE:=aa XE2.out;clear MO2 TU2 XE2;obtain ⟨hc9,e0,e1⟩:=HC.out wq _ _ _ INS.out (by omega) TU.out;obtain ⟨x0,x1⟩:=XE.out.cells2;have bn:=af wq (.cells #[.int .i64 y,.slice av ys.length cv] 93);have zn:(wq.alloc (.cells #[.int .i64 y,.slice av ys.length cv] 93)).heap.size=wq.heap.size+1:=by simp
       have FTL:Hid (∀b∈fT,b<w.heap.size):=fun b hb=>by rcases NT.out _ _ _ INS.out b hb with h|h;exact hdl b h;exact hel b h
       have A1:=aa (MO.out.alloc (.cells #[.int .i64 y,.slice av ys.length cv] 93));have A2:=aa (Ty.Mine.alloc (eE y (HE.out.kept TU.out (NE.out _ _ INS.out))) (.cells #[.int .i64 y,.slice av ys.length cv] 93));have NN:=aa (bN wq #[.int .i64 y,.slice av ys.length cv] 93);have DJ:Hid (∀b∈fp,b∉fe):=fun b hb hb'=>by
        rcases FP.out b hb with h|h
        . exact NE.out _ _ INS.out b hb' h
        have:=hel b hb';omega
       have L1:Hid ((L).length+1<=maxLen):=by unfold Hid maxLen;(try simp only [List.length_append,List.length_cons,List.length_nil]);omega
       have L2:Hid (((L).length+1)*32<=140737488355328):=by unfold Hid;(try simp only [List.length_append,List.length_cons,List.length_nil]);omega
       have XA:=aa (XE.out.alloc (.cells #[.int .i64 y,.slice av ys.length cv] 93));have BN:=aa bn;clear bn MO XE;go_wp2_with (at_builtin;refine cO tWr rfl _ _ 29 rfl 93 i4 (.agg #[.int .i64 0,.slice none 0 0]) 32 Tryz.underlying29 hi4 hz0 hz1 hz2 rfl Nat.zero_lt_two u4 (L) fp rfl ?_ ⟨wq.heap.size,0,none⟩ 1 [.int .i64 y,.slice av ys.length cv] (y,ys) fe rfl ?_ ?_ ?_ ?_ ?_ ?_ ?_;exact A1.out;exact A2.out;exact DJ.out;exact NN.out;(intro u hu;simp at hu;rcases hu with hu|hu<;>(rw [hu];rfl));exact L1.out;exact L2.out;intro v5 w5 fp5 m1 m2 m3;have MO:=aa m1;have O2:=aa m2;have O3:=aa m3;clear m1 m2 m3)
       have TU9:=aa (fK (f:=fe) TU.out BN.out O3.out FP.out (Nat.le_succ _));have FP9:=aa (lH (fT:=fT) (f:=fe) FP.out O2.out (by omega));have XE:=aa (XA.out.turned O3.out (fun hm=>by rcases FP.out _ hm with h|h;exact absurd (FTL.out _ h) (by omega);omega));have zz5:=O3.out.size;have INS9:=aa (gQ.entry INS.out);clear TU FP INS A1 A2 NN DJ L1 L2 XA BN O2 O3 FTL hc9 e0 e1 x0 x1;have TU:=aa TU9.out;have FP:=aa FP9.out;have INS:=aa INS9.out;clear TU9 FP9 INS9;obtain ⟨hc9,e0,e1⟩:=HC.out w5 _ _ _ INS.out (by omega) TU.out;obtain ⟨x0,x1⟩:=XE.out.cells2;go_quiet (fail)
       have sq:=(aP.refl w5).drewN nq;have MO2:=aa (MO.out.below (sq.below _));have TU2:=aa (TU.out.trans (sq.turned _));have XE2:=aa (XE.out.same sq);have zq:=Nat.le_of_eq sq.size.symm;clear sq MO TU XE hc9 e0 e1 x0 x1;generalize w5.drewN nq=w5q at MO2 TU2 XE2 zq ⊢;have MO:=aa MO2.out;have TU:=aa TU2.out;have XE:=aa XE2.out;clear MO2 TU2 XE2;obtain ⟨hc9,e0,e1⟩:=HC.out w5q _ _ _ INS.out (by omega) TU.out;obtain ⟨x0,x1⟩:=XE.out.cells2;have bn:=af w5q (.cells #[.int .i64 z,.slice a zs.length c] 93);have zn:(w5q.alloc (.cells #[.int .i64 z,.slice a zs.length c] 93)).heap.size=w5q.heap.size+1:=by simp
       have FTL:Hid (∀b∈(fT++fe),b<w.heap.size):=fun b hb=>by rcases NT.out _ _ _ INS.out b hb with h|h;exact hdl b h;exact hel b h
       have A1:=aa (MO.out.alloc (.cells #[.int .i64 z,.slice a zs.length c] 93));have A2:=aa (Ty.Mine.alloc (HMD.out.kept TU.out (NF.out _ _ _ _ INS.out HF.out)) (.cells #[.int .i64 z,.slice a zs.length c] 93));have NN:=aa (bN w5q #[.int .i64 z,.slice a zs.length c] 93);have DJ:Hid (∀b∈fp5,b∉f):=fun b hb hb'=>by
        rcases FP.out b hb with h|h
        . exact NF.out _ _ _ _ INS.out HF.out b hb' h
        have:=hfl b hb';omega
       have L1:Hid ((L++[(y,ys)]).length+1<=maxLen):=by unfold Hid maxLen;(try simp only [List.length_append,List.length_cons,List.length_nil]);omega
       have L2:Hid (((L++[(y,ys)]).length+1)*32<=140737488355328):=by unfold Hid;(try simp only [List.length_append,List.length_cons,List.length_nil]);omega
       have XA:=aa (XE.out.alloc (.cells #[.int .i64 z,.slice a zs.length c] 93));have BN:=aa bn;clear bn MO XE;go_wp2_with (at_builtin;refine cO tWr rfl _ _ 29 rfl 93 i4 (.agg #[.int .i64 0,.slice none 0 0]) 32 Tryz.underlying29 hi4 hz0 hz1 hz2 rfl Nat.zero_lt_two v5 (L++[(y,ys)]) fp5 rfl ?_ ⟨w5q.heap.size,0,none⟩ 1 [.int .i64 z,.slice a zs.length c] (z,zs) f rfl ?_ ?_ ?_ ?_ ?_ ?_ ?_;exact A1.out;exact A2.out;exact DJ.out;exact NN.out;(intro u hu;simp at hu;rcases hu with hu|hu<;>(rw [hu];rfl));exact L1.out;exact L2.out;intro v6 w9 fp6 m1 m2 m3;have MO:=aa m1;have O2:=aa m2;have O3:=aa m3;clear m1 m2 m3)
       have TU9:=aa (fK (f:=f) TU.out BN.out O3.out FP.out (Nat.le_succ _));have FP9:=aa (lH (fT:=(fT++fe)) (f:=f) FP.out O2.out (by omega));have XE:=aa (XA.out.turned O3.out (fun hm=>by rcases FP.out _ hm with h|h;exact absurd (FTL.out _ h) (by omega);omega));have zz6:=O3.out.size;have INS9:=aa (gQ.elem INS.out HF.out);clear TU FP INS A1 A2 NN DJ L1 L2 XA BN O2 O3 FTL hc9 e0 e1 x0 x1;have TU:=aa TU9.out;have FP:=aa FP9.out;have INS:=aa INS9.out;clear TU9 FP9 INS9;go_roundw
       case rel=>exact ⟨j+1,fp6,((fT++fe)++f),by omega,by go_num,by rw [HN.out],by rw [HN.out];exact MO.out,FP.out,by rw [HN.out];exact INS.out,TU.out,XE.out,by omega⟩
       case measure=>simp [intOf];omega
     have d1:decide (y<=z)=false:=by simpa using hyz
     have hzy:¬z=y:=by omega
     have HN:Hid (gj ds (y,ys) (j+1)=(L++[(z,zs)],false)):=by unfold Hid;rw [HS.out];exact tX hyz hzy
     have nq1:(z !=y)=true:=by simpa using hzy
     clear hzy hyz HS;obtain ⟨hc9,e0,e1⟩:=HC.out wr _ _ _ INS.out (by omega) TU.out;obtain ⟨x0,x1⟩:=XE.out.cells2;go_wp2_with fail
     go_quiet (fail)
     have sq:=(aP.refl wr).drewN nq;have MO2:=aa (MO.out.below (sq.below _));have TU2:=aa (TU.out.trans (sq.turned _));have XE2:=aa (XE.out.same sq);have zq:=Nat.le_of_eq sq.size.symm;clear sq MO TU XE hc9 e0 e1 x0 x1;generalize wr.drewN nq=wq at MO2 TU2 XE2 zq ⊢;have MO:=aa MO2.out;have TU:=aa TU2.out;have XE:=aa XE2.out;clear MO2 TU2 XE2;obtain ⟨hc9,e0,e1⟩:=HC.out wq _ _ _ INS.out (by omega) TU.out;obtain ⟨x0,x1⟩:=XE.out.cells2;go_wp2_with fail
     go_quiet (fail)
     have sq:=(aP.refl wq).drewN nq;have MO2:=aa (MO.out.below (sq.below _));have TU2:=aa (TU.out.trans (sq.turned _));have XE2:=aa (XE.out.same sq);have zq:=Nat.le_of_eq sq.size.symm;clear sq MO TU XE hc9 e0 e1 x0 x1;generalize wq.drewN nq=wqq at MO2 TU2 XE2 zq ⊢;have MO:=aa MO2.out;have TU:=aa TU2.out;have XE:=aa XE2.out;clear MO2 TU2 XE2;obtain ⟨hc9,e0,e1⟩:=HC.out wqq _ _ _ INS.out (by omega) TU.out;obtain ⟨x0,x1⟩:=XE.out.cells2;have bn:=af wqq (.cells #[.int .i64 z,.slice a zs.length c] 93);have zn:(wqq.alloc (.cells #[.int .i64 z,.slice a zs.length c] 93)).heap.size=wqq.heap.size+1:=by simp
     have FTL:Hid (∀b∈fT,b<w.heap.size):=fun b hb=>by rcases NT.out _ _ _ INS.out b hb with h|h;exact hdl b h;exact hel b h
     have A1:=aa (MO.out.alloc (.cells #[.int .i64 z,.slice a zs.length c] 93));have A2:=aa (Ty.Mine.alloc (HMD.out.kept TU.out (NF.out _ _ _ _ INS.out HF.out)) (.cells #[.int .i64 z,.slice a zs.length c] 93));have NN:=aa (bN wqq #[.int .i64 z,.slice a zs.length c] 93);have DJ:Hid (∀b∈fp,b∉f):=fun b hb hb'=>by
      rcases FP.out b hb with h|h
      . exact NF.out _ _ _ _ INS.out HF.out b hb' h
      have:=hfl b hb';omega
     have L1:Hid ((L).length+1<=maxLen):=by unfold Hid maxLen;(try simp only [List.length_append,List.length_cons,List.length_nil]);omega
     have L2:Hid (((L).length+1)*32<=140737488355328):=by unfold Hid;(try simp only [List.length_append,List.length_cons,List.length_nil]);omega
     have XA:=aa (XE.out.alloc (.cells #[.int .i64 z,.slice a zs.length c] 93));have BN:=aa bn;clear bn MO XE;go_wp2_with (at_builtin;refine cO tWr rfl _ _ 29 rfl 93 i4 (.agg #[.int .i64 0,.slice none 0 0]) 32 Tryz.underlying29 hi4 hz0 hz1 hz2 rfl Nat.zero_lt_two u4 (L) fp rfl ?_ ⟨wqq.heap.size,0,none⟩ 1 [.int .i64 z,.slice a zs.length c] (z,zs) f rfl ?_ ?_ ?_ ?_ ?_ ?_ ?_;exact A1.out;exact A2.out;exact DJ.out;exact NN.out;(intro u hu;simp at hu;rcases hu with hu|hu<;>(rw [hu];rfl));exact L1.out;exact L2.out;intro v6 w9 fp6 m1 m2 m3;have MO:=aa m1;have O2:=aa m2;have O3:=aa m3;clear m1 m2 m3)
     have TU9:=aa (fK (f:=f) TU.out BN.out O3.out FP.out (Nat.le_succ _));have FP9:=aa (lH (fT:=fT) (f:=f) FP.out O2.out (by omega));have XE:=aa (XA.out.turned O3.out (fun hm=>by rcases FP.out _ hm with h|h;exact absurd (FTL.out _ h) (by omega);omega));have zz6:=O3.out.size;have INS9:=aa (gQ.elem INS.out HF.out);clear TU FP INS A1 A2 NN DJ L1 L2 XA BN O2 O3 FTL hc9 e0 e1 x0 x1;have TU:=aa TU9.out;have FP:=aa FP9.out;have INS:=aa INS9.out;clear TU9 FP9 INS9;go_roundw
     case rel=>exact ⟨j+1,fp6,(fT++f),by omega,by go_num,by rw [HN.out],by rw [HN.out];exact MO.out,FP.out,by rw [HN.out];exact INS.out,TU.out,XE.out,by omega⟩
     case measure=>simp [intOf];omega
   by_cases hzy:z=y
   . have HN:Hid (gj ds (y,ys) (j+1)=(L,true)):=by unfold Hid;rw [HS.out];exact xx hzy
     have nq1:(z !=y)=false:=by simp [hzy]
     clear hzy HS;obtain ⟨hc9,e0,e1⟩:=HC.out wr _ _ _ INS.out (by omega) TU.out;obtain ⟨x0,x1⟩:=XE.out.cells2;go_wp2_with fail
     go_quiet (fail)
     have sq:=(aP.refl wr).drewN nq;have MO2:=aa (MO.out.below (sq.below _));have TU2:=aa (TU.out.trans (sq.turned _));have XE2:=aa (XE.out.same sq);have zq:=Nat.le_of_eq sq.size.symm;clear sq MO TU XE hc9 e0 e1 x0 x1;generalize wr.drewN nq=wq at MO2 TU2 XE2 zq ⊢;have MO:=aa MO2.out;have TU:=aa TU2.out;have XE:=aa XE2.out;clear MO2 TU2 XE2;obtain ⟨hc9,e0,e1⟩:=HC.out wq _ _ _ INS.out (by omega) TU.out;obtain ⟨x0,x1⟩:=XE.out.cells2;go_wp2_with fail
     go_quiet (fail)
     have sq:=(aP.refl wq).drewN nq;have MO2:=aa (MO.out.below (sq.below _));have TU2:=aa (TU.out.trans (sq.turned _));have XE2:=aa (XE.out.same sq);have zq:=Nat.le_of_eq sq.size.symm;clear sq MO TU XE hc9 e0 e1 x0 x1;generalize wq.drewN nq=wqq at MO2 TU2 XE2 zq ⊢;have MO:=aa MO2.out;have TU:=aa TU2.out;have XE:=aa XE2.out;clear MO2 TU2 XE2;obtain ⟨hc9,e0,e1⟩:=HC.out wqq _ _ _ INS.out (by omega) TU.out;obtain ⟨x0,x1⟩:=XE.out.cells2;go_wp2
     go_roundw
     case rel=>exact ⟨j+1,fp,fT,by omega,by go_num,by rw [HN.out],by rw [HN.out];exact MO.out,FP.out,by rw [HN.out];exact INS.out.next,TU.out,XE.out,by omega⟩
     case measure=>simp [intOf];omega
   have HN:Hid (gj ds (y,ys) (j+1)=(L++[(z,zs)],true)):=by unfold Hid;rw [HS.out];exact tY hzy
   have nq1:(z !=y)=true:=by simpa using hzy
   clear hzy HS;obtain ⟨hc9,e0,e1⟩:=HC.out wr _ _ _ INS.out (by omega) TU.out;obtain ⟨x0,x1⟩:=XE.out.cells2;go_wp2_with fail
   go_quiet (fail)
   have sq:=(aP.refl wr).drewN nq;have MO2:=aa (MO.out.below (sq.below _));have TU2:=aa (TU.out.trans (sq.turned _));have XE2:=aa (XE.out.same sq);have zq:=Nat.le_of_eq sq.size.symm;clear sq MO TU XE hc9 e0 e1 x0 x1;generalize wr.drewN nq=wq at MO2 TU2 XE2 zq ⊢;have MO:=aa MO2.out;have TU:=aa TU2.out;have XE:=aa XE2.out;clear MO2 TU2 XE2;obtain ⟨hc9,e0,e1⟩:=HC.out wq _ _ _ INS.out (by omega) TU.out;obtain ⟨x0,x1⟩:=XE.out.cells2;go_wp2_with fail
   go_quiet (fail)
   have sq:=(aP.refl wq).drewN nq;have MO2:=aa (MO.out.below (sq.below _));have TU2:=aa (TU.out.trans (sq.turned _));have XE2:=aa (XE.out.same sq);have zq:=Nat.le_of_eq sq.size.symm;clear sq MO TU XE hc9 e0 e1 x0 x1;generalize wq.drewN nq=wqq at MO2 TU2 XE2 zq ⊢;have MO:=aa MO2.out;have TU:=aa TU2.out;have XE:=aa XE2.out;clear MO2 TU2 XE2;obtain ⟨hc9,e0,e1⟩:=HC.out wqq _ _ _ INS.out (by omega) TU.out;obtain ⟨x0,x1⟩:=XE.out.cells2;have bn:=af wqq (.cells #[.int .i64 z,.slice a zs.length c] 93);have zn:(wqq.alloc (.cells #[.int .i64 z,.slice a zs.length c] 93)).heap.size=wqq.heap.size+1:=by simp
   have FTL:Hid (∀b∈fT,b<w.heap.size):=fun b hb=>by rcases NT.out _ _ _ INS.out b hb with h|h;exact hdl b h;exact hel b h
   have A1:=aa (MO.out.alloc (.cells #[.int .i64 z,.slice a zs.length c] 93));have A2:=aa (Ty.Mine.alloc (HMD.out.kept TU.out (NF.out _ _ _ _ INS.out HF.out)) (.cells #[.int .i64 z,.slice a zs.length c] 93));have NN:=aa (bN wqq #[.int .i64 z,.slice a zs.length c] 93);have DJ:Hid (∀b∈fp,b∉f):=fun b hb hb'=>by
    rcases FP.out b hb with h|h
    . exact NF.out _ _ _ _ INS.out HF.out b hb' h
    have:=hfl b hb';omega
   have L1:Hid ((L).length+1<=maxLen):=by unfold Hid maxLen;(try simp only [List.length_append,List.length_cons,List.length_nil]);omega
   have L2:Hid (((L).length+1)*32<=140737488355328):=by unfold Hid;(try simp only [List.length_append,List.length_cons,List.length_nil]);omega
   have XA:=aa (XE.out.alloc (.cells #[.int .i64 z,.slice a zs.length c] 93));have BN:=aa bn;clear bn MO XE;go_wp2_with (at_builtin;refine cO tWr rfl _ _ 29 rfl 93 i4 (.agg #[.int .i64 0,.slice none 0 0]) 32 Tryz.underlying29 hi4 hz0 hz1 hz2 rfl Nat.zero_lt_two u4 (L) fp rfl ?_ ⟨wqq.heap.size,0,none⟩ 1 [.int .i64 z,.slice a zs.length c] (z,zs) f rfl ?_ ?_ ?_ ?_ ?_ ?_ ?_;exact A1.out;exact A2.out;exact DJ.out;exact NN.out;(intro u hu;simp at hu;rcases hu with hu|hu<;>(rw [hu];rfl));exact L1.out;exact L2.out;intro v6 w9 fp6 m1 m2 m3;have MO:=aa m1;have O2:=aa m2;have O3:=aa m3;clear m1 m2 m3)
   have TU9:=aa (fK (f:=f) TU.out BN.out O3.out FP.out (Nat.le_succ _));have FP9:=aa (lH (fT:=fT) (f:=f) FP.out O2.out (by omega));have XE:=aa (XA.out.turned O3.out (fun hm=>by rcases FP.out _ hm with h|h;exact absurd (FTL.out _ h) (by omega);omega));have zz6:=O3.out.size;have INS9:=aa (gQ.elem INS.out HF.out);clear TU FP INS A1 A2 NN DJ L1 L2 XA BN O2 O3 FTL hc9 e0 e1 x0 x1;have TU:=aa TU9.out;have FP:=aa FP9.out;have INS:=aa INS9.out;clear TU9 FP9 INS9;go_roundw
   case rel=>exact ⟨j+1,fp6,(fT++f),by omega,by go_num,by rw [HN.out],by rw [HN.out];exact MO.out,FP.out,by rw [HN.out];exact INS.out,TU.out,XE.out,by omega⟩
   case measure=>simp [intOf];omega
 have ej:j=ds.length:=by omega
 subst ej;have i2:¬((ds.length:Int)<(ds.length:Int)):=by omega
 have hc9:wr.cell? ⟨B,9,none⟩=some (.slice bd ds.length cd):=(World.cell?_of_block (w:=w) (hT.block B zB (NB.out _ _ _ hin))).trans k9;have HPE:Hid (mT ds (y,ys)=if (gj ds (y,ys) ds.length).2=true then (gj ds (y,ys) ds.length).1 else (gj ds (y,ys) ds.length).1++[(y,ys)]):=rfl;generalize gj ds (y,ys) ds.length=q at hmo hin hlq HPE ⊢;obtain ⟨L,dn⟩:=q;dsimp only at hmo hin hlq HPE ⊢
 have MO:=aa hmo;have FP:=aa hfp;have INS:=aa hin;have TU:=aa hT;have XE:=aa hxe;clear hmo hfp hin hT hxe;cases dn
 . have HPV:Hid (mT ds (y,ys)=L++[(y,ys)]):=by unfold Hid;rw [HPE.out,if_neg (by simp)]
   have e0:True:=trivial;have e1:True:=trivial;obtain ⟨x0,x1⟩:=XE.out.cells2;have bn:=af wr (.cells #[.int .i64 y,.slice av ys.length cv] 93);have zn:(wr.alloc (.cells #[.int .i64 y,.slice av ys.length cv] 93)).heap.size=wr.heap.size+1:=by simp
   have FTL:Hid (∀b∈fT,b<w.heap.size):=fun b hb=>by rcases NT.out _ _ _ INS.out b hb with h|h;exact hdl b h;exact hel b h
   have A1:=aa (MO.out.alloc (.cells #[.int .i64 y,.slice av ys.length cv] 93));have A2:=aa (Ty.Mine.alloc (eE y (HE.out.kept TU.out (NE.out _ _ INS.out))) (.cells #[.int .i64 y,.slice av ys.length cv] 93));have NN:=aa (bN wr #[.int .i64 y,.slice av ys.length cv] 93);have DJ:Hid (∀b∈fp,b∉fe):=fun b hb hb'=>by
    rcases FP.out b hb with h|h
    . exact NE.out _ _ INS.out b hb' h
    have:=hel b hb';omega
   have L1:Hid ((L).length+1<=maxLen):=by unfold Hid maxLen;(try simp only [List.length_append,List.length_cons,List.length_nil]);omega
   have L2:Hid (((L).length+1)*32<=140737488355328):=by unfold Hid;(try simp only [List.length_append,List.length_cons,List.length_nil]);omega
   have XA:=aa (XE.out.alloc (.cells #[.int .i64 y,.slice av ys.length cv] 93));have BN:=aa bn;have PRE:Hid (∀w5,aA fp (wr.alloc (.cells #[.int .i64 y,.slice av ys.length cv] 93)) w5->Box w5 B 31 (bH x (.slice bm ms.length cm) (.slice bd ds.length cd))):=fun w5 m3=>((HX.out.turned TU.out (NB.out _ _ _ INS.out)).alloc (.cells #[.int .i64 y,.slice av ys.length cv] 93)).turned m3 (fun hm=>by rcases FP.out _ hm with h|h;exact NB.out _ _ _ INS.out h;omega);clear bn MO XE;go_wp2_with (at_builtin;refine cO tWr rfl _ _ 29 rfl 93 i4 (.agg #[.int .i64 0,.slice none 0 0]) 32 Tryz.underlying29 hi4 hz0 hz1 hz2 rfl Nat.zero_lt_two u4 (L) fp rfl ?_ ⟨wr.heap.size,0,none⟩ 1 [.int .i64 y,.slice av ys.length cv] (y,ys) fe rfl ?_ ?_ ?_ ?_ ?_ ?_ ?_;exact A1.out;exact A2.out;exact DJ.out;exact NN.out;(intro u hu;simp at hu;rcases hu with hu|hu<;>(rw [hu];rfl));exact L1.out;exact L2.out;intro v5 w5 fp5 m1 m2 m3;have MO:=aa m1;have O2:=aa m2;have O3:=aa m3;obtain ⟨va,vc,hv⟩:=aC m1.rd;subst hv;have BW5:=PRE.out _ m3;have fzB:=BW5.frozen;have hcB:w5.cell? ⟨B,9,none⟩=some (.slice bd ds.length cd):=BW5.cell 9;clear BW5;clear m1 m2 m3)
   have TU9:=aa (fK (f:=fe) TU.out BN.out O3.out FP.out (Nat.le_succ _));have FP9:=aa (lH (fT:=fT) (f:=fe) FP.out O2.out (by omega));have XE:=aa (XA.out.turned O3.out (fun hm=>by rcases FP.out _ hm with h|h;exact absurd (FTL.out _ h) (by omega);omega));have zz5:=O3.out.size;have INS9:=aa (gQ.entry INS.out);clear TU FP INS A1 A2 NN DJ L1 L2 XA BN O2 O3 FTL hc9 e0 e1 x0 x1;have TU:=aa TU9.out;have FP:=aa FP9.out;have INS:=aa INS9.out;clear TU9 FP9 INS9;have BW:Box w5 B 31 (bH x (.slice bm ms.length cm) (.slice bd ds.length cd)):=HX.out.turned TU.out (NB.out _ _ _ INS.out);have hBf:B∉fp5:=fun hm=>by rcases FP.out _ hm with h|h;exact NB.out _ _ _ INS.out h;omega
   have hmf:∀b∈fm,b∉fp5:=fun b hb hm=>by rcases FP.out _ hm with h|h;exact NM.out _ _ _ INS.out b hb h;have:=hml b hb;omega
   have HF:Hid (Ending.returned (Value.tuple #[])=.returned (.tuple #[])/\∃fd',aK (w5.setCell ⟨B,9,none⟩ (.slice va (L++[(y,ys)]).length vc)) B x ms (mT ds (y,ys)) fm fd'/\aA (B :: (fd++fe)) w (w5.setCell ⟨B,9,none⟩ (.slice va (L++[(y,ys)]).length vc))/\∀b∈fd',b∈fd∨b∈fe∨w.heap.size<=b):=by
    unfold Hid;rw [HPV.out];refine ⟨rfl,fp5,⟨bm,va,cm,vc,BW.set 9 _,(HM.out.kept TU.out (NM.out _ _ _ INS.out)).setCell r1 _,MO.out.setCell hBf _,fun b hb hm=>hmf b hb hm,r1,hBf⟩,⟨TU.out.os,TU.out.tape,TU.out.output,by simpa [World.setCell] using TU.out.size,fun k hk hn=>?_⟩,fun b hb=>?_⟩
    . rw [Below.heap_setCell _ _ _ _ (fun e=>hn (by rw [show k=B from e];exact List.mem_cons_self)),TU.out.block k hk (fun hm=>hn (List.mem_cons_of_mem _ (by rcases NT.out _ _ _ INS.out k hm with h|h;exact List.mem_append_left _ h;exact List.mem_append_right _ h)))]
    rcases FP.out b hb with h|h
    . rcases NT.out _ _ _ INS.out b h with h|h;exact .inl h;exact .inr (.inl h)
    exact .inr (.inr (by omega))
   clear BW hBf hmf MO XE;have hll:(L++[(y,ys)]).length=L.length+1:=by simp
   rw [hll] at HF;refine bodyPost_end (v:=.tuple #[]) (results_none rfl _ _ _) rfl ?_
   exact ⟨rfl,HF.out.2⟩
 have HPV:Hid (mT ds (y,ys)=L):=by unfold Hid;rw [HPE.out,if_pos rfl]
 obtain ⟨va,vc,hv⟩:=aC MO.out.rd;subst hv;have BW:Box wr B 31 (bH x (.slice bm ms.length cm) (.slice bd ds.length cd)):=HX.out.turned TU.out (NB.out _ _ _ INS.out);have fzB:=BW.frozen;have hcB:wr.cell? ⟨B,9,none⟩=some (.slice bd ds.length cd):=(World.cell?_of_block (w:=w) (TU.out.block B zB (NB.out _ _ _ INS.out))).trans k9;have hBf:B∉fp:=fun hm=>by rcases FP.out _ hm with h|h;exact NB.out _ _ _ INS.out h;omega
 have hmf:∀b∈fm,b∉fp:=fun b hb hm=>by rcases FP.out _ hm with h|h;exact NM.out _ _ _ INS.out b hb h;have:=hml b hb;omega
 have HF:Hid (Ending.returned (Value.tuple #[])=.returned (.tuple #[])/\∃fd',aK (wr.setCell ⟨B,9,none⟩ (.slice va (L).length vc)) B x ms (mT ds (y,ys)) fm fd'/\aA (B :: (fd++fe)) w (wr.setCell ⟨B,9,none⟩ (.slice va (L).length vc))/\∀b∈fd',b∈fd∨b∈fe∨w.heap.size<=b):=by
  unfold Hid;rw [HPV.out];refine ⟨rfl,fp,⟨bm,va,cm,vc,BW.set 9 _,(HM.out.kept TU.out (NM.out _ _ _ INS.out)).setCell r1 _,MO.out.setCell hBf _,fun b hb hm=>hmf b hb hm,r1,hBf⟩,⟨TU.out.os,TU.out.tape,TU.out.output,by simpa [World.setCell] using TU.out.size,fun k hk hn=>?_⟩,fun b hb=>?_⟩
  . rw [Below.heap_setCell _ _ _ _ (fun e=>hn (by rw [show k=B from e];exact List.mem_cons_self)),TU.out.block k hk (fun hm=>hn (List.mem_cons_of_mem _ (by rcases NT.out _ _ _ INS.out k hm with h|h;exact List.mem_append_left _ h;exact List.mem_append_right _ h)))]
  rcases FP.out b hb with h|h
  . rcases NT.out _ _ _ INS.out b h with h|h;exact .inl h;exact .inr (.inl h)
  exact .inr (.inr (by omega))
 clear BW hBf hmf MO XE;go_wp2
 refine bodyPost_end (v:=.tuple #[]) (results_none rfl _ _ _) rfl ?_
 exact ⟨rfl,HF.out.2⟩
end Go.Proofs.YtgjomldcnjjpaaaGreat

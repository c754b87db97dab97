/-
 What a disk of an array holds of a stripe (word6), and the walk of the specification's look for it. Condition: the array weighs at most 2097152.
-/
import Derived.Test.YtejeekndbnpmoaaGreatRowWritesBentSq3
import Derived.Test.YtejeekndbnpmoaaGreatRowWritesBentSq7
import Derived.Test.YtejeekndbnpmoaaGreatRowWritesBentSq9
import Derived.Test.YtejeekndbnpmoaaGreatRowWritesBentSq6
import Derived.Test.YtejeekndbnpmoaaGreatRowWritesBentSq4
import Derived.Test.YtejeekndbnpmoaaGreatRowWritesBentSq11

set_option maxRecDepth 100000
set_option maxHeartbeats 8000000
set_option linter.unusedSimpArgs false

namespace Go.Proofs.YtejeekndbnpmoaaGreat
open Go.RowKit

theorem su {e d:aF} {L:List aF} (_:e.1<=d.1) (h2:d.1=e.1):fj e (L,false) d=(L++[e],true):=by simp [fj,h2]
theorem sx {e d:aF} {L:List aF} (h1:e.1<=d.1) (h2:¬d.1=e.1):fj e (L,false) d=(L++[e]++[d],true):=by simp [fj,h1,h2]
theorem sy {e d:aF} {L:List aF} (h1:¬e.1<=d.1) (h2:¬d.1=e.1):fj e (L,false) d=(L++[d],false):=by simp [fj,h1,h2]
theorem vw {e d:aF} {L:List aF} (h2:d.1=e.1):fj e (L,true) d=(L,true):=by simp [fj,h2]
theorem sA {e d:aF} {L:List aF} (h2:¬d.1=e.1):fj e (L,true) d=(L++[d],true):=by simp [fj,h2]
def gh (fps:List (List Nat)) (fe:List Nat) (j:Nat) (dn:Bool) (fT:List Nat):Prop:=∀b∈fT,(dn=true/\b∈fe)∨∃i f,i<j/\fps[i]?=some f/\b∈f
theorem gh.next {fps:List (List Nat)} {fe:List Nat} {j:Nat} {dn:Bool} {fT:List Nat} (h:gh fps fe j dn fT):gh fps fe (j+1) dn fT:=fun b hb=>by
 rcases h b hb with h1|⟨i,f,h1,h2⟩
 . exact .inl h1
 exact .inr ⟨i,f,by omega,h2⟩
theorem gh.entry {fps:List (List Nat)} {fe:List Nat} {j:Nat} {fT:List Nat} (h:gh fps fe j false fT):gh fps fe j true (fT++fe):=fun b hb=>by
 rcases List.mem_append.1 hb with hb|hb
 . rcases h b hb with ⟨h1,_⟩|h1
   . cases h1
   exact .inr h1
 exact .inl ⟨rfl,hb⟩
theorem gh.elem {fps:List (List Nat)} {fe f:List Nat} {j:Nat} {dn:Bool} {fT:List Nat} (h:gh fps fe j dn fT) (hf:fps[j]?=some f):gh fps fe (j+1) dn (fT++f):=fun b hb=>by
 rcases List.mem_append.1 hb with hb|hb
 . exact h.next b hb
 exact .inr ⟨j,f,by omega,hf,hb⟩
theorem eR {w wr w1 w2:World} {fT f fp:List Nat} {N:Nat} (hT:aw fT w wr) (h1:Below wr.heap.size wr w1) (h2:aw fp w1 w2) (hfp:∀b∈fp,b∈fT∨N<=b) (hN:w.heap.size<=N):aw (fT++f) w w2:=
 ⟨h2.os.trans (h1.os.trans hT.os),h2.tape.trans (h1.tape.trans hT.tape),h2.output.trans (h1.output.trans hT.output),Nat.le_trans hT.size (Nat.le_trans h1.size h2.size),fun k hk hn=>by
  have hk1:k<wr.heap.size:=Nat.lt_of_lt_of_le hk hT.size;rw [h2.block k (Nat.lt_of_lt_of_le hk1 h1.size) (fun hm=>by
   rcases hfp k hm with h|h
   . exact hn (List.mem_append_left _ h)
   omega),h1.block k hk1,hT.block k hk (fun hm=>hn (List.mem_append_left _ hm))]⟩
theorem kC {w1 w2:World} {fT f fp fp2:List Nat} {N:Nat} (hfp:∀b∈fp,b∈fT∨N<=b) (h2:∀b∈fp2,b∈fp∨b∈f∨(b=w1.heap.size/\b<w2.heap.size)) (hN:N<=w1.heap.size):∀b∈fp2,b∈fT++f∨N<=b:=fun b hb=>by
 rcases h2 b hb with h|h|h
 . rcases hfp b h with h|h
   . exact .inl (List.mem_append_left _ h)
   exact .inr h
 . exact .inl (List.mem_append_right _ h)
 exact .inr (by omega)
theorem tb (w:World) (B:Nat) (x:al) (ms:List ai) (ds:List aF) (fm fd:List Nat) (h:aD w B x ms ds fm fd) (y:Int) (av:Option Addr) (cv:Nat) (ys:List Int) (fe:List Nat) (he:aA.Mine w [.slice av ys.length cv] ys fe) (he0:B∉fe) (he1:∀b∈fe,b∉fm) (he2:∀b∈fe,b∉fd) (hl:ds.length<=500000):
 Calls Tryz.prog 188 #[.pointer (some ⟨B,0,none⟩),.agg #[.int .i64 y,.slice av ys.length cv]] w fun e w'=>e=.returned (.tuple #[])/\∃fd',aD w' B x ms (lq ds (y,ys)) fm fd'/\aw (B :: (fd++fe)) w w'/\∀b∈fd',b∈fd∨b∈fe∨w.heap.size<=b:=by
 obtain ⟨i4,hi4,hz0,hz1,hz2⟩:=info_parts Tryz.infoEnt;obtain ⟨bm,bd,cm,cd,X,hm,hd,hr,r1,r2⟩:=h;obtain ⟨fps,g1,g2,g3,g4⟩:=kh hd;have hdx:=(af hd.rd).2;have zB:=X.lt;have k9:w.cell? ⟨B,9,none⟩=some (.slice bd ds.length cd):=by unfold aC at X;exact X.cells13.2.2.2.2.2.2.2.2.2.1
 have hel:=he.lt;have hdl:=hd.lt;have hml:=hm.lt;have HX:=aa X;have HM:=aa hm;have HR:=aa hr;have NB:Hid (∀j dn fT,gh fps fe j dn fT->B∉fT):=fun j dn fT hi hm=>by
  rcases hi B hm with ⟨_,h1⟩|⟨i,f,_,h2,h3⟩
  . exact he0 h1
  exact r2 (g3 B (List.mem_flatten.2 ⟨f,List.mem_of_getElem? h2,h3⟩))
 have NM:Hid (∀j dn fT,gh fps fe j dn fT->∀b∈fm,b∉fT):=fun j dn fT hi b hb hm=>by
  rcases hi b hm with ⟨_,h1⟩|⟨i,f,_,h2,h3⟩
  . exact he1 b h1 hb
  exact hr b hb (g3 b (List.mem_flatten.2 ⟨f,List.mem_of_getElem? h2,h3⟩))
 have NF:Hid (∀j dn fT f,gh fps fe j dn fT->fps[j]?=some f->∀b∈f,b∉fT):=fun j dn fT f hi hf b hb hm=>by
  rcases hi b hm with ⟨_,h1⟩|⟨i,f2,h4,h2,h3⟩
  . exact he2 b h1 (g3 b (List.mem_flatten.2 ⟨f,List.mem_of_getElem? hf,hb⟩))
  exact (ez g2 hf).2.2 i f2 h2 (by omega) b h3 hb
 have NE:Hid (∀j fT,gh fps fe j false fT->∀b∈fe,b∉fT):=fun j fT hi b hb hm=>by
  rcases hi b hm with ⟨h1,_⟩|⟨i,f2,h4,h2,h3⟩
  . cases h1
  exact he2 b hb (g3 b (List.mem_flatten.2 ⟨f2,List.mem_of_getElem? h2,h3⟩))
 have NT:Hid (∀j dn fT,gh fps fe j dn fT->∀b∈fT,b∈fd∨b∈fe):=fun j dn fT hi b hm=>by
  rcases hi b hm with ⟨_,h1⟩|⟨i,f2,h4,h2,h3⟩
  . exact .inr h1
  exact .inl (g3 b (List.mem_flatten.2 ⟨f2,List.mem_of_getElem? h2,h3⟩))
 have NG:Hid (∀j dn fT (g:Nat),gh fps fe j dn fT->j<=ds.length->bd=some ⟨g,0,none⟩->g∈fd->g∉fT):=fun j dn fT g hi hj hb hgd hm=>by
  rcases hi g hm with ⟨_,h1⟩|⟨i,f2,h4,h2,h3⟩
  . exact he2 g h1 hgd
  obtain ⟨f',g',_,_,hf',hb',_,_,hn',_⟩:=g4 i _ (List.getElem?_eq_getElem (show i<ds.length by omega));rw [hb] at hb';simp at hb'
  rw [h2] at hf';simp at hf'
  exact hn' (by rw [←hf',←hb'];exact h3)
 have G4:=aa g4;have HE:=aa he;have T0:aw [] w ((w.alloc (.cells #[.int .i64 y,.slice av ys.length cv] 90)).alloc (.cells #[] 90)):=((aw.refl [] w).alloc _).alloc _;have X0:Box ((w.alloc (.cells #[.int .i64 y,.slice av ys.length cv] 90)).alloc (.cells #[] 90)) w.heap.size 90 #[.int .i64 y,.slice av ys.length cv]:=(Box.new w _ _).alloc _;have M0:=dJ (t:=tWr) (E:=90) (w.alloc (.cells #[.int .i64 y,.slice av ys.length cv] 90));rw [World.size_alloc] at M0;have hzW:((w.alloc (.cells #[.int .i64 y,.slice av ys.length cv] 90)).alloc (.cells #[] 90)).heap.size=w.heap.size+1+1:=by simp
 have HT0:=aa T0;have HX0:=aa X0;have HM0:=aa M0;clear hm hd hr he T0 X0 M0 g1 g2 g3 g4 X;go_enter Tryz.func188,Tryz.ntmps188
 go_wp2
 generalize (w.alloc (.cells #[.int .i64 y,.slice av ys.length cv] 90)).alloc (.cells #[] 90)=W0 at HT0 HX0 HM0 hzW ⊢;go_loopw [4,5,6] (fun v d i wr=>∃(j:Nat) (fp fT:List Nat),j<=ds.length/\i=.int .i64 j/\d=.bool (fH ds (y,ys) j).2/\(aU 90).Mine wr [v] (fH ds (y,ys) j).1 fp/\(∀b∈fp,b∈fT∨w.heap.size+1<=b)/\gh fps fe j (fH ds (y,ys) j).2 fT/\aw fT w wr/\Box wr w.heap.size 90 #[.int .i64 y,.slice av ys.length cv]/\w.heap.size+1+1<=wr.heap.size) (fun _ _ i _=>ds.length-(intOf i).toNat)
 case atStart=>exact ⟨0,[w.heap.size+1],[],Nat.zero_le _,rfl,rfl,HM0.out,by simp,fun b hb=>by simp at hb,HT0.out,HX0.out,by omega⟩
 obtain ⟨j,fp,fT,hj,rfl,rfl,hmo,hfp,hin,hT,hxe,hzr⟩:=hrel;have hlq:=pF ds (y,ys) j hj;by_cases hjn:j<ds.length
 . have i1:(0:Int)<=(j:Int):=by omega
   have i2:(j:Int)<(ds.length:Int):=by omega
   have hdj:ds[j]?=some (ds[j]'hjn):=List.getElem?_eq_getElem hjn;generalize ds[j]'hjn=d at hdj;obtain ⟨f,g,a,c,hf,hbd,hgl,hgd,hgf,c0,c1,hMD⟩:=G4.out j d hdj;obtain ⟨z,zs⟩:=d;dsimp only at c0 c1 hMD
   have hfl:=hMD.lt;have HS:=aa (nQ (e:=(y,ys)) hdj);have HC:Hid (∀W j' dn fT,gh fps fe j' dn fT->j'<=ds.length->aw fT w W->W.cell? ⟨B,9,none⟩=some (.slice bd ds.length cd)/\W.cell? ⟨g,j*2,none⟩=some (.int .i64 z)/\W.cell? ⟨g,j*2+1,none⟩=some (.slice a zs.length c)):=fun W j' dn fT hi hj' hT=>⟨(World.cell?_of_block (w:=w) (hT.block B zB (NB.out _ _ _ hi))).trans k9,(World.cell?_of_block (w:=w) (hT.block g hgl (NG.out _ _ _ _ hi hj' hbd hgd))).trans c0,(World.cell?_of_block (w:=w) (hT.block g hgl (NG.out _ _ _ _ hi hj' hbd hgd))).trans c1⟩;subst hbd;generalize hq:fH ds (y,ys) j=q at hmo hin hlq HS ⊢;obtain ⟨L,dn⟩:=q;dsimp only at hmo hin hlq ⊢
   have MO:=aa hmo;have FP:=aa hfp;have INS:=aa hin;have TU:=aa hT;have XE:=aa hxe;have HMD:=aa hMD;have HF:=aa hf;clear hmo hfp hin hT hxe hMD hq c0 c1 hdj;cases dn
   . by_cases hyz:y<=z
     . have d1:decide (y<=z)=true:=by simpa using hyz
       by_cases hzy:z=y
       . have HN:Hid (fH ds (y,ys) (j+1)=(L++[(y,ys)],true)):=by unfold Hid;rw [HS.out];exact su hyz hzy
         have nq1:(z !=y)=false:=by simp [hzy]
         have HYZ:=aa hyz;clear hzy hyz HS;obtain ⟨hc9,e0,e1⟩:=HC.out wr _ _ _ INS.out (by omega) TU.out;obtain ⟨x0,x1⟩:=XE.out.cells2;go_wp2_with fail
         go_quiet (fail)
         have sq:=(aN.refl wr).drewN nq;have MO2:=aa (MO.out.below (sq.below _));have TU2:=aa (TU.out.trans (sq.turned _));have XE2:=aa (XE.out.same sq);have zq:=Nat.le_of_eq sq.size.symm;clear sq MO TU XE hc9 e0 e1 x0 x1;generalize wr.drewN nq=wq at MO2 TU2 XE2 zq ⊢;have MO:=aa MO2.out;have TU:=aa TU2.out;have XE:=aa XE2.out;clear MO2 TU2 XE2;obtain ⟨hc9,e0,e1⟩:=HC.out wq _ _ _ INS.out (by omega) TU.out;obtain ⟨x0,x1⟩:=XE.out.cells2;have bn:=ae wq (.cells #[.int .i64 y,.slice av ys.length cv] 90);have zn:(wq.alloc (.cells #[.int .i64 y,.slice av ys.length cv] 90)).heap.size=wq.heap.size+1:=by simp
         have FTL:Hid (∀b∈fT,b<w.heap.size):=fun b hb=>by rcases NT.out _ _ _ INS.out b hb with h|h;exact hdl b h;exact hel b h
         have A1:=aa (MO.out.alloc (.cells #[.int .i64 y,.slice av ys.length cv] 90));have A2:=aa (Ty.Mine.alloc (dK y (HE.out.kept TU.out (NE.out _ _ INS.out))) (.cells #[.int .i64 y,.slice av ys.length cv] 90));have NN:=aa (bk wq #[.int .i64 y,.slice av ys.length cv] 90);have DJ:Hid (∀b∈fp,b∉fe):=fun b hb hb'=>by
          rcases FP.out b hb with h|h
          . exact NE.out _ _ INS.out b hb' h
          have:=hel b hb';omega
         have L1:Hid ((L).length+1<=maxLen):=by unfold Hid maxLen;(try simp only [List.length_append,List.length_cons,List.length_nil]);omega
         have L2:Hid (((L).length+1)*32<=140737488355328):=by unfold Hid;(try simp only [List.length_append,List.length_cons,List.length_nil]);omega
         have XA:=aa (XE.out.alloc (.cells #[.int .i64 y,.slice av ys.length cv] 90));have BN:=aa bn;clear bn MO XE;go_wp2_with (at_builtin;refine bT tWr rfl _ _ 27 rfl 90 i4 (.agg #[.int .i64 0,.slice none 0 0]) 32 Tryz.underlying27 hi4 hz0 hz1 hz2 rfl Nat.zero_lt_two u4 (L) fp rfl ?_ ⟨wq.heap.size,0,none⟩ 1 [.int .i64 y,.slice av ys.length cv] (y,ys) fe rfl ?_ ?_ ?_ ?_ ?_ ?_ ?_;exact A1.out;exact A2.out;exact DJ.out;exact NN.out;(intro u hu;simp at hu;rcases hu with hu|hu<;>(rw [hu];rfl));exact L1.out;exact L2.out;intro v5 w5 fp5 m1 m2 m3;have MO:=aa m1;have O2:=aa m2;have O3:=aa m3;clear m1 m2 m3)
         have TU9:=aa (eR (f:=fe) TU.out BN.out O3.out FP.out (Nat.le_succ _));have FP9:=aa (kC (fT:=fT) (f:=fe) FP.out O2.out (by omega));have XE:=aa (XA.out.turned O3.out (fun hm=>by rcases FP.out _ hm with h|h;exact absurd (FTL.out _ h) (by omega);omega));have zz5:=O3.out.size;have INS9:=aa (gh.entry INS.out);clear TU FP INS A1 A2 NN DJ L1 L2 XA BN O2 O3 FTL hc9 e0 e1 x0 x1;have TU:=aa TU9.out;have FP:=aa FP9.out;have INS:=aa INS9.out;clear TU9 FP9 INS9;obtain ⟨hc9,e0,e1⟩:=HC.out w5 _ _ _ INS.out (by omega) TU.out;obtain ⟨x0,x1⟩:=XE.out.cells2;go_quiet (fail)
         have sq:=(aN.refl w5).drewN nq;have MO2:=aa (MO.out.below (sq.below _));have TU2:=aa (TU.out.trans (sq.turned _));have XE2:=aa (XE.out.same sq);have zq:=Nat.le_of_eq sq.size.symm;clear sq MO TU XE hc9 e0 e1 x0 x1;generalize w5.drewN nq=w5q at MO2 TU2 XE2 zq ⊢;have MO:=aa MO2.out;have TU:=aa TU2.out;have XE:=aa XE2.out;clear MO2 TU2 XE2;obtain ⟨hc9,e0,e1⟩:=HC.out w5q _ _ _ INS.out (by omega) TU.out;obtain ⟨x0,x1⟩:=XE.out.cells2;go_wp2
         go_roundw
         case rel=>exact ⟨j+1,fp5,(fT++fe),by omega,by go_num,by rw [HN.out],by rw [HN.out];exact MO.out,FP.out,by rw [HN.out];exact INS.out.next,TU.out,XE.out,by omega⟩
         case measure=>simp [intOf];omega
       have HN:Hid (fH ds (y,ys) (j+1)=(L++[(y,ys)]++[(z,zs)],true)):=by unfold Hid;rw [HS.out];exact sx hyz hzy
       have nq1:(z !=y)=true:=by simpa using hzy
       clear hzy hyz HS;obtain ⟨hc9,e0,e1⟩:=HC.out wr _ _ _ INS.out (by omega) TU.out;obtain ⟨x0,x1⟩:=XE.out.cells2;go_wp2_with fail
       go_quiet (fail)
       have sq:=(aN.refl wr).drewN nq;have MO2:=aa (MO.out.below (sq.below _));have TU2:=aa (TU.out.trans (sq.turned _));have XE2:=aa (XE.out.same sq);have zq:=Nat.le_of_eq sq.size.symm;clear sq MO TU XE hc9 e0 e1 x0 x1;generalize wr.drewN nq=wq at MO2 TU2 XE2 zq ⊢;have MO:=aa MO2.out;have TU:=aa TU2.out;have XE:=aa XE2.out;clear MO2 TU2 XE2;obtain ⟨hc9,e0,e1⟩:=HC.out wq _ _ _ INS.out (by omega) TU.out;obtain ⟨x0,x1⟩:=XE.out.cells2;have bn:=ae wq (.cells #[.int .i64 y,.slice av ys.length cv] 90);have zn:(wq.alloc (.cells #[.int .i64 y,.slice av ys.length cv] 90)).heap.size=wq.heap.size+1:=by simp
       have FTL:Hid (∀b∈fT,b<w.heap.size):=fun b hb=>by rcases NT.out _ _ _ INS.out b hb with h|h;exact hdl b h;exact hel b h
       have A1:=aa (MO.out.alloc (.cells #[.int .i64 y,.slice av ys.length cv] 90));have A2:=aa (Ty.Mine.alloc (dK y (HE.out.kept TU.out (NE.out _ _ INS.out))) (.cells #[.int .i64 y,.slice av ys.length cv] 90));have NN:=aa (bk wq #[.int .i64 y,.slice av ys.length cv] 90);have DJ:Hid (∀b∈fp,b∉fe):=fun b hb hb'=>by
        rcases FP.out b hb with h|h
        . exact NE.out _ _ INS.out b hb' h
        have:=hel b hb';omega
       have L1:Hid ((L).length+1<=maxLen):=by unfold Hid maxLen;(try simp only [List.length_append,List.length_cons,List.length_nil]);omega
       have L2:Hid (((L).length+1)*32<=140737488355328):=by unfold Hid;(try simp only [List.length_append,List.length_cons,List.length_nil]);omega
       have XA:=aa (XE.out.alloc (.cells #[.int .i64 y,.slice av ys.length cv] 90));have BN:=aa bn;clear bn MO XE;go_wp2_with (at_builtin;refine bT tWr rfl _ _ 27 rfl 90 i4 (.agg #[.int .i64 0,.slice none 0 0]) 32 Tryz.underlying27 hi4 hz0 hz1 hz2 rfl Nat.zero_lt_two u4 (L) fp rfl ?_ ⟨wq.heap.size,0,none⟩ 1 [.int .i64 y,.slice av ys.length cv] (y,ys) fe rfl ?_ ?_ ?_ ?_ ?_ ?_ ?_;exact A1.out;exact A2.out;exact DJ.out;exact NN.out;(intro u hu;simp at hu;rcases hu with hu|hu<;>(rw [hu];rfl));exact L1.out;exact L2.out;intro v5 w5 fp5 m1 m2 m3;have MO:=aa m1;have O2:=aa m2;have O3:=aa m3;clear m1 m2 m3)
       have TU9:=aa (eR (f:=fe) TU.out BN.out O3.out FP.out (Nat.le_succ _));have FP9:=aa (kC (fT:=fT) (f:=fe) FP.out O2.out (by omega));have XE:=aa (XA.out.turned O3.out (fun hm=>by rcases FP.out _ hm with h|h;exact absurd (FTL.out _ h) (by omega);omega));have zz5:=O3.out.size;have INS9:=aa (gh.entry INS.out);clear TU FP INS A1 A2 NN DJ L1 L2 XA BN O2 O3 FTL hc9 e0 e1 x0 x1;have TU:=aa TU9.out;have FP:=aa FP9.out;have INS:=aa INS9.out;clear TU9 FP9 INS9;obtain ⟨hc9,e0,e1⟩:=HC.out w5 _ _ _ INS.out (by omega) TU.out;obtain ⟨x0,x1⟩:=XE.out.cells2;go_quiet (fail)
       have sq:=(aN.refl w5).drewN nq;have MO2:=aa (MO.out.below (sq.below _));have TU2:=aa (TU.out.trans (sq.turned _));have XE2:=aa (XE.out.same sq);have zq:=Nat.le_of_eq sq.size.symm;clear sq MO TU XE hc9 e0 e1 x0 x1;generalize w5.drewN nq=w5q at MO2 TU2 XE2 zq ⊢;have MO:=aa MO2.out;have TU:=aa TU2.out;have XE:=aa XE2.out;clear MO2 TU2 XE2;obtain ⟨hc9,e0,e1⟩:=HC.out w5q _ _ _ INS.out (by omega) TU.out;obtain ⟨x0,x1⟩:=XE.out.cells2;have bn:=ae w5q (.cells #[.int .i64 z,.slice a zs.length c] 90);have zn:(w5q.alloc (.cells #[.int .i64 z,.slice a zs.length c] 90)).heap.size=w5q.heap.size+1:=by simp
       have FTL:Hid (∀b∈(fT++fe),b<w.heap.size):=fun b hb=>by rcases NT.out _ _ _ INS.out b hb with h|h;exact hdl b h;exact hel b h
       have A1:=aa (MO.out.alloc (.cells #[.int .i64 z,.slice a zs.length c] 90));have A2:=aa (Ty.Mine.alloc (HMD.out.kept TU.out (NF.out _ _ _ _ INS.out HF.out)) (.cells #[.int .i64 z,.slice a zs.length c] 90));have NN:=aa (bk w5q #[.int .i64 z,.slice a zs.length c] 90);have DJ:Hid (∀b∈fp5,b∉f):=fun b hb hb'=>by
        rcases FP.out b hb with h|h
        . exact NF.out _ _ _ _ INS.out HF.out b hb' h
        have:=hfl b hb';omega
       have L1:Hid ((L++[(y,ys)]).length+1<=maxLen):=by unfold Hid maxLen;(try simp only [List.length_append,List.length_cons,List.length_nil]);omega
       have L2:Hid (((L++[(y,ys)]).length+1)*32<=140737488355328):=by unfold Hid;(try simp only [List.length_append,List.length_cons,List.length_nil]);omega
       have XA:=aa (XE.out.alloc (.cells #[.int .i64 z,.slice a zs.length c] 90));have BN:=aa bn;clear bn MO XE;go_wp2_with (at_builtin;refine bT tWr rfl _ _ 27 rfl 90 i4 (.agg #[.int .i64 0,.slice none 0 0]) 32 Tryz.underlying27 hi4 hz0 hz1 hz2 rfl Nat.zero_lt_two v5 (L++[(y,ys)]) fp5 rfl ?_ ⟨w5q.heap.size,0,none⟩ 1 [.int .i64 z,.slice a zs.length c] (z,zs) f rfl ?_ ?_ ?_ ?_ ?_ ?_ ?_;exact A1.out;exact A2.out;exact DJ.out;exact NN.out;(intro u hu;simp at hu;rcases hu with hu|hu<;>(rw [hu];rfl));exact L1.out;exact L2.out;intro v6 w9 fp6 m1 m2 m3;have MO:=aa m1;have O2:=aa m2;have O3:=aa m3;clear m1 m2 m3)
       have TU9:=aa (eR (f:=f) TU.out BN.out O3.out FP.out (Nat.le_succ _));have FP9:=aa (kC (fT:=(fT++fe)) (f:=f) FP.out O2.out (by omega));have XE:=aa (XA.out.turned O3.out (fun hm=>by rcases FP.out _ hm with h|h;exact absurd (FTL.out _ h) (by omega);omega));have zz6:=O3.out.size;have INS9:=aa (gh.elem INS.out HF.out);clear TU FP INS A1 A2 NN DJ L1 L2 XA BN O2 O3 FTL hc9 e0 e1 x0 x1;have TU:=aa TU9.out;have FP:=aa FP9.out;have INS:=aa INS9.out;clear TU9 FP9 INS9;go_roundw
       case rel=>exact ⟨j+1,fp6,((fT++fe)++f),by omega,by go_num,by rw [HN.out],by rw [HN.out];exact MO.out,FP.out,by rw [HN.out];exact INS.out,TU.out,XE.out,by omega⟩
       case measure=>simp [intOf];omega
     have d1:decide (y<=z)=false:=by simpa using hyz
     have hzy:¬z=y:=by omega
     have HN:Hid (fH ds (y,ys) (j+1)=(L++[(z,zs)],false)):=by unfold Hid;rw [HS.out];exact sy hyz hzy
     have nq1:(z !=y)=true:=by simpa using hzy
     clear hzy hyz HS;obtain ⟨hc9,e0,e1⟩:=HC.out wr _ _ _ INS.out (by omega) TU.out;obtain ⟨x0,x1⟩:=XE.out.cells2;go_wp2_with fail
     go_quiet (fail)
     have sq:=(aN.refl wr).drewN nq;have MO2:=aa (MO.out.below (sq.below _));have TU2:=aa (TU.out.trans (sq.turned _));have XE2:=aa (XE.out.same sq);have zq:=Nat.le_of_eq sq.size.symm;clear sq MO TU XE hc9 e0 e1 x0 x1;generalize wr.drewN nq=wq at MO2 TU2 XE2 zq ⊢;have MO:=aa MO2.out;have TU:=aa TU2.out;have XE:=aa XE2.out;clear MO2 TU2 XE2;obtain ⟨hc9,e0,e1⟩:=HC.out wq _ _ _ INS.out (by omega) TU.out;obtain ⟨x0,x1⟩:=XE.out.cells2;go_wp2_with fail
     go_quiet (fail)
     have sq:=(aN.refl wq).drewN nq;have MO2:=aa (MO.out.below (sq.below _));have TU2:=aa (TU.out.trans (sq.turned _));have XE2:=aa (XE.out.same sq);have zq:=Nat.le_of_eq sq.size.symm;clear sq MO TU XE hc9 e0 e1 x0 x1;generalize wq.drewN nq=wqq at MO2 TU2 XE2 zq ⊢;have MO:=aa MO2.out;have TU:=aa TU2.out;have XE:=aa XE2.out;clear MO2 TU2 XE2;obtain ⟨hc9,e0,e1⟩:=HC.out wqq _ _ _ INS.out (by omega) TU.out;obtain ⟨x0,x1⟩:=XE.out.cells2;have bn:=ae wqq (.cells #[.int .i64 z,.slice a zs.length c] 90);have zn:(wqq.alloc (.cells #[.int .i64 z,.slice a zs.length c] 90)).heap.size=wqq.heap.size+1:=by simp
     have FTL:Hid (∀b∈fT,b<w.heap.size):=fun b hb=>by rcases NT.out _ _ _ INS.out b hb with h|h;exact hdl b h;exact hel b h
     have A1:=aa (MO.out.alloc (.cells #[.int .i64 z,.slice a zs.length c] 90));have A2:=aa (Ty.Mine.alloc (HMD.out.kept TU.out (NF.out _ _ _ _ INS.out HF.out)) (.cells #[.int .i64 z,.slice a zs.length c] 90));have NN:=aa (bk wqq #[.int .i64 z,.slice a zs.length c] 90);have DJ:Hid (∀b∈fp,b∉f):=fun b hb hb'=>by
      rcases FP.out b hb with h|h
      . exact NF.out _ _ _ _ INS.out HF.out b hb' h
      have:=hfl b hb';omega
     have L1:Hid ((L).length+1<=maxLen):=by unfold Hid maxLen;(try simp only [List.length_append,List.length_cons,List.length_nil]);omega
     have L2:Hid (((L).length+1)*32<=140737488355328):=by unfold Hid;(try simp only [List.length_append,List.length_cons,List.length_nil]);omega
     have XA:=aa (XE.out.alloc (.cells #[.int .i64 z,.slice a zs.length c] 90));have BN:=aa bn;clear bn MO XE;go_wp2_with (at_builtin;refine bT tWr rfl _ _ 27 rfl 90 i4 (.agg #[.int .i64 0,.slice none 0 0]) 32 Tryz.underlying27 hi4 hz0 hz1 hz2 rfl Nat.zero_lt_two u4 (L) fp rfl ?_ ⟨wqq.heap.size,0,none⟩ 1 [.int .i64 z,.slice a zs.length c] (z,zs) f rfl ?_ ?_ ?_ ?_ ?_ ?_ ?_;exact A1.out;exact A2.out;exact DJ.out;exact NN.out;(intro u hu;simp at hu;rcases hu with hu|hu<;>(rw [hu];rfl));exact L1.out;exact L2.out;intro v6 w9 fp6 m1 m2 m3;have MO:=aa m1;have O2:=aa m2;have O3:=aa m3;clear m1 m2 m3)
     have TU9:=aa (eR (f:=f) TU.out BN.out O3.out FP.out (Nat.le_succ _));have FP9:=aa (kC (fT:=fT) (f:=f) FP.out O2.out (by omega));have XE:=aa (XA.out.turned O3.out (fun hm=>by rcases FP.out _ hm with h|h;exact absurd (FTL.out _ h) (by omega);omega));have zz6:=O3.out.size;have INS9:=aa (gh.elem INS.out HF.out);clear TU FP INS A1 A2 NN DJ L1 L2 XA BN O2 O3 FTL hc9 e0 e1 x0 x1;have TU:=aa TU9.out;have FP:=aa FP9.out;have INS:=aa INS9.out;clear TU9 FP9 INS9;go_roundw
     case rel=>exact ⟨j+1,fp6,(fT++f),by omega,by go_num,by rw [HN.out],by rw [HN.out];exact MO.out,FP.out,by rw [HN.out];exact INS.out,TU.out,XE.out,by omega⟩
     case measure=>simp [intOf];omega
   by_cases hzy:z=y
   . have HN:Hid (fH ds (y,ys) (j+1)=(L,true)):=by unfold Hid;rw [HS.out];exact vw hzy
     have nq1:(z !=y)=false:=by simp [hzy]
     clear hzy HS;obtain ⟨hc9,e0,e1⟩:=HC.out wr _ _ _ INS.out (by omega) TU.out;obtain ⟨x0,x1⟩:=XE.out.cells2;go_wp2_with fail
     go_quiet (fail)
     have sq:=(aN.refl wr).drewN nq;have MO2:=aa (MO.out.below (sq.below _));have TU2:=aa (TU.out.trans (sq.turned _));have XE2:=aa (XE.out.same sq);have zq:=Nat.le_of_eq sq.size.symm;clear sq MO TU XE hc9 e0 e1 x0 x1;generalize wr.drewN nq=wq at MO2 TU2 XE2 zq ⊢;have MO:=aa MO2.out;have TU:=aa TU2.out;have XE:=aa XE2.out;clear MO2 TU2 XE2;obtain ⟨hc9,e0,e1⟩:=HC.out wq _ _ _ INS.out (by omega) TU.out;obtain ⟨x0,x1⟩:=XE.out.cells2;go_wp2_with fail
     go_quiet (fail)
     have sq:=(aN.refl wq).drewN nq;have MO2:=aa (MO.out.below (sq.below _));have TU2:=aa (TU.out.trans (sq.turned _));have XE2:=aa (XE.out.same sq);have zq:=Nat.le_of_eq sq.size.symm;clear sq MO TU XE hc9 e0 e1 x0 x1;generalize wq.drewN nq=wqq at MO2 TU2 XE2 zq ⊢;have MO:=aa MO2.out;have TU:=aa TU2.out;have XE:=aa XE2.out;clear MO2 TU2 XE2;obtain ⟨hc9,e0,e1⟩:=HC.out wqq _ _ _ INS.out (by omega) TU.out;obtain ⟨x0,x1⟩:=XE.out.cells2;go_wp2
     go_roundw
     case rel=>exact ⟨j+1,fp,fT,by omega,by go_num,by rw [HN.out],by rw [HN.out];exact MO.out,FP.out,by rw [HN.out];exact INS.out.next,TU.out,XE.out,by omega⟩
     case measure=>simp [intOf];omega
   have HN:Hid (fH ds (y,ys) (j+1)=(L++[(z,zs)],true)):=by unfold Hid;rw [HS.out];exact sA hzy
   have nq1:(z !=y)=true:=by simpa using hzy
   clear hzy HS;obtain ⟨hc9,e0,e1⟩:=HC.out wr _ _ _ INS.out (by omega) TU.out;obtain ⟨x0,x1⟩:=XE.out.cells2;go_wp2_with fail
   go_quiet (fail)
   have sq:=(aN.refl wr).drewN nq;have MO2:=aa (MO.out.below (sq.below _));have TU2:=aa (TU.out.trans (sq.turned _));have XE2:=aa (XE.out.same sq);have zq:=Nat.le_of_eq sq.size.symm;clear sq MO TU XE hc9 e0 e1 x0 x1;generalize wr.drewN nq=wq at MO2 TU2 XE2 zq ⊢;have MO:=aa MO2.out;have TU:=aa TU2.out;have XE:=aa XE2.out;clear MO2 TU2 XE2;obtain ⟨hc9,e0,e1⟩:=HC.out wq _ _ _ INS.out (by omega) TU.out;obtain ⟨x0,x1⟩:=XE.out.cells2;go_wp2_with fail
   go_quiet (fail)
   have sq:=(aN.refl wq).drewN nq;have MO2:=aa (MO.out.below (sq.below _));have TU2:=aa (TU.out.trans (sq.turned _));have XE2:=aa (XE.out.same sq);have zq:=Nat.le_of_eq sq.size.symm;clear sq MO TU XE hc9 e0 e1 x0 x1;generalize wq.drewN nq=wqq at MO2 TU2 XE2 zq ⊢;have MO:=aa MO2.out;have TU:=aa TU2.out;have XE:=aa XE2.out;clear MO2 TU2 XE2;obtain ⟨hc9,e0,e1⟩:=HC.out wqq _ _ _ INS.out (by omega) TU.out;obtain ⟨x0,x1⟩:=XE.out.cells2;have bn:=ae wqq (.cells #[.int .i64 z,.slice a zs.length c] 90);have zn:(wqq.alloc (.cells #[.int .i64 z,.slice a zs.length c] 90)).heap.size=wqq.heap.size+1:=by simp
   have FTL:Hid (∀b∈fT,b<w.heap.size):=fun b hb=>by rcases NT.out _ _ _ INS.out b hb with h|h;exact hdl b h;exact hel b h
   have A1:=aa (MO.out.alloc (.cells #[.int .i64 z,.slice a zs.length c] 90));have A2:=aa (Ty.Mine.alloc (HMD.out.kept TU.out (NF.out _ _ _ _ INS.out HF.out)) (.cells #[.int .i64 z,.slice a zs.length c] 90));have NN:=aa (bk wqq #[.int .i64 z,.slice a zs.length c] 90);have DJ:Hid (∀b∈fp,b∉f):=fun b hb hb'=>by
    rcases FP.out b hb with h|h
    . exact NF.out _ _ _ _ INS.out HF.out b hb' h
    have:=hfl b hb';omega
   have L1:Hid ((L).length+1<=maxLen):=by unfold Hid maxLen;(try simp only [List.length_append,List.length_cons,List.length_nil]);omega
   have L2:Hid (((L).length+1)*32<=140737488355328):=by unfold Hid;(try simp only [List.length_append,List.length_cons,List.length_nil]);omega
   have XA:=aa (XE.out.alloc (.cells #[.int .i64 z,.slice a zs.length c] 90));have BN:=aa bn;clear bn MO XE;go_wp2_with (at_builtin;refine bT tWr rfl _ _ 27 rfl 90 i4 (.agg #[.int .i64 0,.slice none 0 0]) 32 Tryz.underlying27 hi4 hz0 hz1 hz2 rfl Nat.zero_lt_two u4 (L) fp rfl ?_ ⟨wqq.heap.size,0,none⟩ 1 [.int .i64 z,.slice a zs.length c] (z,zs) f rfl ?_ ?_ ?_ ?_ ?_ ?_ ?_;exact A1.out;exact A2.out;exact DJ.out;exact NN.out;(intro u hu;simp at hu;rcases hu with hu|hu<;>(rw [hu];rfl));exact L1.out;exact L2.out;intro v6 w9 fp6 m1 m2 m3;have MO:=aa m1;have O2:=aa m2;have O3:=aa m3;clear m1 m2 m3)
   have TU9:=aa (eR (f:=f) TU.out BN.out O3.out FP.out (Nat.le_succ _));have FP9:=aa (kC (fT:=fT) (f:=f) FP.out O2.out (by omega));have XE:=aa (XA.out.turned O3.out (fun hm=>by rcases FP.out _ hm with h|h;exact absurd (FTL.out _ h) (by omega);omega));have zz6:=O3.out.size;have INS9:=aa (gh.elem INS.out HF.out);clear TU FP INS A1 A2 NN DJ L1 L2 XA BN O2 O3 FTL hc9 e0 e1 x0 x1;have TU:=aa TU9.out;have FP:=aa FP9.out;have INS:=aa INS9.out;clear TU9 FP9 INS9;go_roundw
   case rel=>exact ⟨j+1,fp6,(fT++f),by omega,by go_num,by rw [HN.out],by rw [HN.out];exact MO.out,FP.out,by rw [HN.out];exact INS.out,TU.out,XE.out,by omega⟩
   case measure=>simp [intOf];omega
 have ej:j=ds.length:=by omega
 subst ej;have i2:¬((ds.length:Int)<(ds.length:Int)):=by omega
 have hc9:wr.cell? ⟨B,9,none⟩=some (.slice bd ds.length cd):=(World.cell?_of_block (w:=w) (hT.block B zB (NB.out _ _ _ hin))).trans k9;have HPE:Hid (lq ds (y,ys)=if (fH ds (y,ys) ds.length).2=true then (fH ds (y,ys) ds.length).1 else (fH ds (y,ys) ds.length).1++[(y,ys)]):=rfl;generalize fH ds (y,ys) ds.length=q at hmo hin hlq HPE ⊢;obtain ⟨L,dn⟩:=q;dsimp only at hmo hin hlq HPE ⊢
 have MO:=aa hmo;have FP:=aa hfp;have INS:=aa hin;have TU:=aa hT;have XE:=aa hxe;clear hmo hfp hin hT hxe;cases dn
 . have HPV:Hid (lq ds (y,ys)=L++[(y,ys)]):=by unfold Hid;rw [HPE.out,if_neg (by simp)]
   have e0:True:=trivial;have e1:True:=trivial;obtain ⟨x0,x1⟩:=XE.out.cells2;have bn:=ae wr (.cells #[.int .i64 y,.slice av ys.length cv] 90);have zn:(wr.alloc (.cells #[.int .i64 y,.slice av ys.length cv] 90)).heap.size=wr.heap.size+1:=by simp
   have FTL:Hid (∀b∈fT,b<w.heap.size):=fun b hb=>by rcases NT.out _ _ _ INS.out b hb with h|h;exact hdl b h;exact hel b h
   have A1:=aa (MO.out.alloc (.cells #[.int .i64 y,.slice av ys.length cv] 90));have A2:=aa (Ty.Mine.alloc (dK y (HE.out.kept TU.out (NE.out _ _ INS.out))) (.cells #[.int .i64 y,.slice av ys.length cv] 90));have NN:=aa (bk wr #[.int .i64 y,.slice av ys.length cv] 90);have DJ:Hid (∀b∈fp,b∉fe):=fun b hb hb'=>by
    rcases FP.out b hb with h|h
    . exact NE.out _ _ INS.out b hb' h
    have:=hel b hb';omega
   have L1:Hid ((L).length+1<=maxLen):=by unfold Hid maxLen;(try simp only [List.length_append,List.length_cons,List.length_nil]);omega
   have L2:Hid (((L).length+1)*32<=140737488355328):=by unfold Hid;(try simp only [List.length_append,List.length_cons,List.length_nil]);omega
   have XA:=aa (XE.out.alloc (.cells #[.int .i64 y,.slice av ys.length cv] 90));have BN:=aa bn;have PRE:Hid (∀w5,aw fp (wr.alloc (.cells #[.int .i64 y,.slice av ys.length cv] 90)) w5->Box w5 B 29 (aC x (.slice bm ms.length cm) (.slice bd ds.length cd))):=fun w5 m3=>((HX.out.turned TU.out (NB.out _ _ _ INS.out)).alloc (.cells #[.int .i64 y,.slice av ys.length cv] 90)).turned m3 (fun hm=>by rcases FP.out _ hm with h|h;exact NB.out _ _ _ INS.out h;omega);clear bn MO XE;go_wp2_with (at_builtin;refine bT tWr rfl _ _ 27 rfl 90 i4 (.agg #[.int .i64 0,.slice none 0 0]) 32 Tryz.underlying27 hi4 hz0 hz1 hz2 rfl Nat.zero_lt_two u4 (L) fp rfl ?_ ⟨wr.heap.size,0,none⟩ 1 [.int .i64 y,.slice av ys.length cv] (y,ys) fe rfl ?_ ?_ ?_ ?_ ?_ ?_ ?_;exact A1.out;exact A2.out;exact DJ.out;exact NN.out;(intro u hu;simp at hu;rcases hu with hu|hu<;>(rw [hu];rfl));exact L1.out;exact L2.out;intro v5 w5 fp5 m1 m2 m3;have MO:=aa m1;have O2:=aa m2;have O3:=aa m3;obtain ⟨va,vc,hv⟩:=az m1.rd;subst hv;have BW5:=PRE.out _ m3;have fzB:=BW5.frozen;have hcB:w5.cell? ⟨B,9,none⟩=some (.slice bd ds.length cd):=BW5.cell 9;clear BW5;clear m1 m2 m3)
   have TU9:=aa (eR (f:=fe) TU.out BN.out O3.out FP.out (Nat.le_succ _));have FP9:=aa (kC (fT:=fT) (f:=fe) FP.out O2.out (by omega));have XE:=aa (XA.out.turned O3.out (fun hm=>by rcases FP.out _ hm with h|h;exact absurd (FTL.out _ h) (by omega);omega));have zz5:=O3.out.size;have INS9:=aa (gh.entry INS.out);clear TU FP INS A1 A2 NN DJ L1 L2 XA BN O2 O3 FTL hc9 e0 e1 x0 x1;have TU:=aa TU9.out;have FP:=aa FP9.out;have INS:=aa INS9.out;clear TU9 FP9 INS9;have BW:Box w5 B 29 (aC x (.slice bm ms.length cm) (.slice bd ds.length cd)):=HX.out.turned TU.out (NB.out _ _ _ INS.out);have hBf:B∉fp5:=fun hm=>by rcases FP.out _ hm with h|h;exact NB.out _ _ _ INS.out h;omega
   have hmf:∀b∈fm,b∉fp5:=fun b hb hm=>by rcases FP.out _ hm with h|h;exact NM.out _ _ _ INS.out b hb h;have:=hml b hb;omega
   have HF:Hid (Ending.returned (Value.tuple #[])=.returned (.tuple #[])/\∃fd',aD (w5.setCell ⟨B,9,none⟩ (.slice va (L++[(y,ys)]).length vc)) B x ms (lq ds (y,ys)) fm fd'/\aw (B :: (fd++fe)) w (w5.setCell ⟨B,9,none⟩ (.slice va (L++[(y,ys)]).length vc))/\∀b∈fd',b∈fd∨b∈fe∨w.heap.size<=b):=by
    unfold Hid;rw [HPV.out];refine ⟨rfl,fp5,⟨bm,va,cm,vc,BW.set 9 _,(HM.out.kept TU.out (NM.out _ _ _ INS.out)).setCell r1 _,MO.out.setCell hBf _,fun b hb hm=>hmf b hb hm,r1,hBf⟩,⟨TU.out.os,TU.out.tape,TU.out.output,by simpa [World.setCell] using TU.out.size,fun k hk hn=>?_⟩,fun b hb=>?_⟩
    . rw [Below.heap_setCell _ _ _ _ (fun e=>hn (by rw [show k=B from e];exact List.mem_cons_self)),TU.out.block k hk (fun hm=>hn (List.mem_cons_of_mem _ (by rcases NT.out _ _ _ INS.out k hm with h|h;exact List.mem_append_left _ h;exact List.mem_append_right _ h)))]
    rcases FP.out b hb with h|h
    . rcases NT.out _ _ _ INS.out b h with h|h;exact .inl h;exact .inr (.inl h)
    exact .inr (.inr (by omega))
   clear BW hBf hmf MO XE;have hll:(L++[(y,ys)]).length=L.length+1:=by simp
   rw [hll] at HF;refine bodyPost_end (v:=.tuple #[]) (results_none rfl _ _ _) rfl ?_
   exact ⟨rfl,HF.out.2⟩
 have HPV:Hid (lq ds (y,ys)=L):=by unfold Hid;rw [HPE.out,if_pos rfl]
 obtain ⟨va,vc,hv⟩:=az MO.out.rd;subst hv;have BW:Box wr B 29 (aC x (.slice bm ms.length cm) (.slice bd ds.length cd)):=HX.out.turned TU.out (NB.out _ _ _ INS.out);have fzB:=BW.frozen;have hcB:wr.cell? ⟨B,9,none⟩=some (.slice bd ds.length cd):=(World.cell?_of_block (w:=w) (TU.out.block B zB (NB.out _ _ _ INS.out))).trans k9;have hBf:B∉fp:=fun hm=>by rcases FP.out _ hm with h|h;exact NB.out _ _ _ INS.out h;omega
 have hmf:∀b∈fm,b∉fp:=fun b hb hm=>by rcases FP.out _ hm with h|h;exact NM.out _ _ _ INS.out b hb h;have:=hml b hb;omega
 have HF:Hid (Ending.returned (Value.tuple #[])=.returned (.tuple #[])/\∃fd',aD (wr.setCell ⟨B,9,none⟩ (.slice va (L).length vc)) B x ms (lq ds (y,ys)) fm fd'/\aw (B :: (fd++fe)) w (wr.setCell ⟨B,9,none⟩ (.slice va (L).length vc))/\∀b∈fd',b∈fd∨b∈fe∨w.heap.size<=b):=by
  unfold Hid;rw [HPV.out];refine ⟨rfl,fp,⟨bm,va,cm,vc,BW.set 9 _,(HM.out.kept TU.out (NM.out _ _ _ INS.out)).setCell r1 _,MO.out.setCell hBf _,fun b hb hm=>hmf b hb hm,r1,hBf⟩,⟨TU.out.os,TU.out.tape,TU.out.output,by simpa [World.setCell] using TU.out.size,fun k hk hn=>?_⟩,fun b hb=>?_⟩
  . rw [Below.heap_setCell _ _ _ _ (fun e=>hn (by rw [show k=B from e];exact List.mem_cons_self)),TU.out.block k hk (fun hm=>hn (List.mem_cons_of_mem _ (by rcases NT.out _ _ _ INS.out k hm with h|h;exact List.mem_append_left _ h;exact List.mem_append_right _ h)))]
  rcases FP.out b hb with h|h
  . rcases NT.out _ _ _ INS.out b h with h|h;exact .inl h;exact .inr (.inl h)
  exact .inr (.inr (by omega))
 clear BW hBf hmf MO XE;go_wp2
 refine bodyPost_end (v:=.tuple #[]) (results_none rfl _ _ _) rfl ?_
 exact ⟨rfl,HF.out.2⟩
theorem kD {e:aF}:∀(ds L:List aF),(∀d∈ds,¬d.1=e.1)->ds.foldl (fj e) (L,true)=(L++ds,true)
 | [],L,_=>by simp
 | d :: ds,L,h=>by
  rw [List.foldl_cons,sA (h d List.mem_cons_self),kD ds _ (fun d hd=>h d (List.mem_cons_of_mem _ hd))];simp
theorem oz {e:aF}:∀(ds L:List aF),(∀d∈ds,d.1<e.1)->ds.foldl (fj e) (L,false)=(L++ds,false)
 | [],L,_=>by simp
 | d :: ds,L,h=>by
  have h1:=h d List.mem_cons_self;rw [List.foldl_cons,sy (by omega) (by omega),oz ds _ (fun d hd=>h d (List.mem_cons_of_mem _ hd))];simp
theorem ux {ds:List aF} {k:Nat} {d:aF} (h:d∈ds.drop k):∃i,k<=i/\ds[i]?=some d:=by
 obtain ⟨i,hi⟩:=List.mem_iff_getElem?.1 h;rw [List.getElem?_drop] at hi;exact ⟨k+i,by omega,hi⟩
theorem qg {ds:List aF} {k:Nat} {d:aF} (h:d∈ds.take k):∃i,i<k/\ds[i]?=some d:=by
 obtain ⟨i,hi⟩:=List.mem_iff_getElem?.1 h;rw [List.getElem?_take] at hi;split at hi
 . exact ⟨i,by assumption,hi⟩
 simp at hi
theorem vx {ds:List aF} {t:Int} {ys:List Int} {k:Nat} {r:Bool} (ha:Asc8 ds) (h:Spot ds t k r):lq ds (t,ys)=ds.take k++[(t,ys)]++ds.drop (if r=true then k+1 else k):=by
 obtain ⟨h1,h2,h3,h4⟩:=h;have hq:fH ds (t,ys) ds.length=(ds.drop k).foldl (fj (t,ys)) (ds.take k,false):=by
  unfold fH;rw [List.take_of_length_le (Nat.le_refl _)];conv=>lhs;rw [←List.take_append_drop k ds]
  rw [List.foldl_append,oz (ds.take k) [] (fun d hd=>by obtain ⟨i,hi,hd⟩:=qg hd;exact h2 i d hi hd)];simp
 unfold lq;rw [hq];rcases h4 with ⟨rfl,d,hk,hdt⟩|⟨rfl,hk⟩
 . have hkl:=(List.getElem?_eq_some_iff.1 hk).1
   have hdr:ds.drop k=d :: ds.drop (k+1):=by
    rw [List.drop_eq_getElem_cons hkl];have:=(List.getElem?_eq_some_iff.1 hk).2;rw [this]
   rw [hdr,List.foldl_cons,su (by show t<=d.1;omega) hdt,kD _ _ (fun d' hd' h'=>by
    obtain ⟨i,hi,hd'⟩:=ux hd';have:=ha.1 k i d d' (by omega) hk hd';have:d'.1=t:=h';omega)]
   simp
 cases hdr:ds.drop k with
 | nil=>simp [hdr]
 | cons d l=>
  have hd:d∈ds.drop k:=by rw [hdr];exact List.mem_cons_self
  have hkd:ds[k]?=some d:=by
   have:(ds.drop k)[0]?=some d:=by rw [hdr];rfl
   rwa [List.getElem?_drop] at this
  have a1:=h3 k d (Nat.le_refl _) hkd;have a2:=hk d hkd;rw [List.foldl_cons,sx (by show t<=d.1;exact a1) a2,kD _ _ (fun d' hd' h'=>by
   obtain ⟨i,hi,hd'⟩:=ux (show d'∈ds.drop k by rw [hdr];exact List.mem_cons_of_mem _ hd');have:=h3 i d' hi hd';have h'':d'.1=t:=h';by_cases hik:i=k
   . subst hik
     exact hk d' hd' h''
   have:=ha.1 k i d d' (by omega) hkd hd';omega)]
  simp [hdr]
theorem vy {ds:List aF} (ha:Asc8 ds) (t:Int):∃k r,Spot ds t k r:=by
 have h:∀m,m<=ds.length->(∃k,k<=m/\(∀(i:Nat) (e:aF),i<k->ds[i]?=some e->e.1<t)/\(∀(i:Nat) (e:aF),k<=i->i<m->ds[i]?=some e->t<=e.1)):=by
  intro m;induction m with
  | zero=>intro _;exact ⟨0,Nat.le_refl _,fun i e hi=>by omega,fun i e _ hi=>by omega⟩
  | succ m ih=>
   intro hm;obtain ⟨k,hk,h1,h2⟩:=ih (by omega);have hmm:=List.getElem?_eq_getElem (show m<ds.length by omega);by_cases hlt:(ds[m]'(by omega)).1<t
   . refine ⟨m+1,Nat.le_refl _,fun i e hi he=>?_,fun i e h3 h4=>by omega⟩
     by_cases him:i=m
     . subst him
       rw [hmm] at he;simp at he
       rw [←he];exact hlt
     have:=ha.1 i m e _ (by omega) he hmm;omega
   refine ⟨k,by omega,h1,fun i e h3 h4 he=>?_⟩
   by_cases him:i=m
   . subst him
     rw [hmm] at he;simp at he
     rw [←he];omega
   exact h2 i e h3 (by omega) he
 obtain ⟨k,hk,h1,h2⟩:=h ds.length (Nat.le_refl _);have h3:∀(i:Nat) (e:aF),k<=i->ds[i]?=some e->t<=e.1:=fun i e hi he=>h2 i e hi (List.getElem?_eq_some_iff.1 he).1 he;cases hkd:ds[k]? with
 | none=>exact ⟨k,false,hk,h1,h3,.inr ⟨rfl,fun e he=>by rw [hkd] at he;cases he⟩⟩
 | some d=>
  by_cases hd:d.1=t
  . exact ⟨k,true,hk,h1,h3,.inl ⟨rfl,d,hkd,hd⟩⟩
  exact ⟨k,false,hk,h1,h3,.inr ⟨rfl,fun e he=>by rw [hkd] at he;cases he;exact hd⟩⟩
def dV (ss:List (List Int)) (cs:List (Int×List Int)) (f:Bool) (bs:List Int) (n:Int):Bool:=bp ss cs bs&&(!f&&(inB n 0 ((ss.length:Int)-1)&&!inL bs n))
def mK (ss:List (List Int)) (n:Int):List Int:=ss.getD n.toNat []
def eK (ss:List (List Int)) (cs:List (Int×List Int)) (f:Bool) (bs:List Int) (n:Int):List Int:=if dV ss cs f bs n=true then (cT cs n).getD (mK ss n) else []
theorem lv (w:World) (E:TypeId) (a0 a1 a3:Option Addr) (n0 c0 n1 c1 n3 c3:Nat) (ss:List (List Int)) (cs:List (Int×List Int)) (f:Bool) (bs:List Int) (n:Int) (h0:aT.Rd w [.slice a0 n0 c0] ss) (h1:(aU E).Rd w [.slice a1 n1 c1] cs) (h3:aA.Rd w [.slice a3 n3 c3] bs) (hw:aQ (ss,cs,f,bs)<=2097152):
 Calls Tryz.prog 269 #[.agg #[.slice a0 n0 c0,.slice a1 n1 c1,.bool f,.slice a3 n3 c3],.int .i64 n] w fun e w'=>∃a' l c',e=.returned (.tuple #[.slice a' l c',.bool (dV ss cs f bs n)])/\aA.Own w' w.heap.size w'.heap.size [.slice a' l c'] (eK ss cs f bs n)/\Below w.heap.size w w':=by
 obtain ⟨hl0,_,hm0⟩:=af h0;obtain ⟨hl1,_,hm1⟩:=af h1;obtain ⟨hl3,_,hm3⟩:=af h3;have hw3:n3<=2097152:=by unfold aQ at hw;simp only at hw;omega
 have hw0:cP ss<=2097152:=by unfold aQ at hw;simp only at hw;omega
 have hw1:bh cs<=2097152:=by unfold aQ at hw;simp only at hw;omega
 have hn0:n0<=2097152:=by unfold cP at hw0;omega
 have hn1:n1<=2097152:=by unfold bh at hw1;omega
 have hA:Below w.heap.size w (w.alloc (.cells #[.slice a0 n0 c0,.slice a1 n1 c1,.bool f,.slice a3 n3 c3] 101)):=(Below.refl _ _).alloc (Nat.le_refl _) _;have xm:=Box.new w 101 #[.slice a0 n0 c0,.slice a1 n1 c1,.bool f,.slice a3 n3 c3];have g0:=h0.below hA;have g1:=h1.below hA;have g3:=h3.below hA;obtain ⟨q0,q1,q2,q3⟩:=xm.cells4;have zm:=xm.lt;have fin:∀w1,Below w.heap.size w w1->aA.Own (w1.alloc (.cells #[] 3)) w.heap.size (w1.alloc (.cells #[] 3)).heap.size [.slice (some ⟨w1.heap.size,0,none⟩) 0 0] []/\Below w.heap.size w (w1.alloc (.cells #[] 3)):=by
  intro w1 hb;have hs:=hb.size;exact ⟨(aR (bj.lit .i64 3 w1 [] 0 #[] rfl rfl (by unfold maxLen;omega))).widen hs (Nat.le_refl _),hb.alloc hb.size _⟩
 by_cases hM:bp ss cs bs=true
 . by_cases hf:f=true
   . subst hf
     have hro:dV ss cs true bs n=false:=by unfold dV;rw [hM];rfl
     have hrd:eK ss cs true bs n=[]:=by unfold eK;rw [hro];rfl
     rw [hro,hrd];clear hro hrd;go_enter Tryz.func269,Tryz.ntmps269
     go_wp2_with fail
     generalize hW:w.alloc (.cells #[.slice a0 n0 c0,.slice a1 n1 c1,.bool true,.slice a3 n3 c3] 101)=W at hA g0 g1 g3 q0 q1 q2 q3 zm ⊢;clear hW xm;refine (aW _ E _ _ _ _ _ _ _ _ _ ss cs true bs g0 g1 g3 hw).mono ?_
     rintro e w1 ⟨rfl,b1⟩;have r0:=(b1.cell (p:=⟨w.heap.size,0,none⟩) zm).trans q0;have r1:=(b1.cell (p:=⟨w.heap.size,1,none⟩) zm).trans q1;have r2:=(b1.cell (p:=⟨w.heap.size,2,none⟩) zm).trans q2;have r3:=(b1.cell (p:=⟨w.heap.size,3,none⟩) zm).trans q3;have B1:=Below.andThen hA b1;have z1:=Nat.lt_of_lt_of_le zm b1.size;clear q0 q1 q2 q3;go_wp2
     go_ret2
     exact ⟨_,_,_,rfl,(fin _ B1).1,(fin _ B1).2⟩
   have hf:f=false:=by simpa using hf
   subst hf;by_cases hI:inB n 0 ((n0:Int)-1)=true
   . by_cases hB:inL bs n=true
     . have hro:dV ss cs false bs n=false:=by unfold dV;rw [hM,hl0,hI,hB];rfl
       have hrd:eK ss cs false bs n=[]:=by unfold eK;rw [hro];rfl
       rw [hro,hrd];clear hro hrd;go_enter Tryz.func269,Tryz.ntmps269
       go_wp2_with fail
       generalize hW:w.alloc (.cells #[.slice a0 n0 c0,.slice a1 n1 c1,.bool false,.slice a3 n3 c3] 101)=W at hA g0 g1 g3 q0 q1 q2 q3 zm ⊢;clear hW xm;refine (aW _ E _ _ _ _ _ _ _ _ _ ss cs false bs g0 g1 g3 hw).mono ?_
       rintro e w1 ⟨rfl,b1⟩;have r0:=(b1.cell (p:=⟨w.heap.size,0,none⟩) zm).trans q0;have r1:=(b1.cell (p:=⟨w.heap.size,1,none⟩) zm).trans q1;have r2:=(b1.cell (p:=⟨w.heap.size,2,none⟩) zm).trans q2;have r3:=(b1.cell (p:=⟨w.heap.size,3,none⟩) zm).trans q3;have B1:=Below.andThen hA b1;have z1:=Nat.lt_of_lt_of_le zm b1.size;clear q0 q1 q2 q3;have gw:IntKind.i64.wrap ((n0:Int)-1)=(n0:Int)-1:=IntWalk.i64_in _ (by omega);go_wp2_with fail
       refine (aE _ _ _ _).mono ?_
       rintro e w2 ⟨rfl,hw2⟩;subst w2;have k3:=g3.below b1;go_wp2_with fail
       refine (kt _ _ _ _ bs _ hl3 (aP k3).1 hw3).mono ?_
       rintro e w3 ⟨rfl,s3⟩;have B3:=Below.andSame B1 s3;go_wp2
       go_ret2
       exact ⟨_,_,_,rfl,(fin _ B3).1,(fin _ B3).2⟩
     have hB:inL bs n=false:=by simpa using hB
     have hro:dV ss cs false bs n=true:=by unfold dV;rw [hM,hl0,hI,hB];rfl
     have hrd:eK ss cs false bs n=(cT cs n).getD (mK ss n):=by unfold eK;rw [hro];rfl
     rw [hro,hrd];clear hro hrd;have hI':0<=n/\n<=(n0:Int)-1:=by unfold inB at hI;simpa using hI
     obtain ⟨k,rfl⟩:∃k:Nat,n=(k:Int):=⟨n.toNat,by omega⟩;have hk:k<n0:=by omega
     go_enter Tryz.func269,Tryz.ntmps269
     go_wp2_with fail
     generalize hW:w.alloc (.cells #[.slice a0 n0 c0,.slice a1 n1 c1,.bool false,.slice a3 n3 c3] 101)=W at hA g0 g1 g3 q0 q1 q2 q3 zm ⊢;clear hW xm;refine (aW _ E _ _ _ _ _ _ _ _ _ ss cs false bs g0 g1 g3 hw).mono ?_
     rintro e w1 ⟨rfl,b1⟩;have r0:=(b1.cell (p:=⟨w.heap.size,0,none⟩) zm).trans q0;have r1:=(b1.cell (p:=⟨w.heap.size,1,none⟩) zm).trans q1;have r2:=(b1.cell (p:=⟨w.heap.size,2,none⟩) zm).trans q2;have r3:=(b1.cell (p:=⟨w.heap.size,3,none⟩) zm).trans q3;have B1:=Below.andThen hA b1;have z1:=Nat.lt_of_lt_of_le zm b1.size;clear q0 q1 q2 q3;have gw:IntKind.i64.wrap ((n0:Int)-1)=(n0:Int)-1:=IntWalk.i64_in _ (by omega);go_wp2_with fail
     refine (aE _ _ _ _).mono ?_
     rintro e w2 ⟨rfl,hw2⟩;subst w2;have k3:=g3.below b1;go_wp2_with fail
     refine (kt _ _ _ _ bs _ hl3 (aP k3).1 hw3).mono ?_
     rintro e w3 ⟨rfl,s3⟩;have B3:=Below.andSame B1 s3;have m0:=(s3.cell _).trans r0;have m1:=(s3.cell _).trans r1;have b3:=Below.andSame b1 s3;have y1:=g1.below b3;rcases ii rfl g0 with h0'|⟨b,off,rfl,hbl,hcs⟩
     . omega
     have hdj:ss[k]?=some (ss[k]'(by omega)):=List.getElem?_eq_getElem (by omega);generalize ss[k]'(by omega)=x at hdj;have hil:=fQ hdj;obtain ⟨v,hv,hrv⟩:=hcs k x hdj;obtain ⟨av,cv,rfl⟩:=az hrv;have mv:=(b3.cell (p:=⟨b,off+k,none⟩) hbl).trans hv;have hrx:=hrv.below b3;have hgx:mK ss (k:Int)=x:=by unfold mK;rw [Int.toNat_natCast,List.getD_eq_getElem?_getD,hdj];rfl
     have HGX:=aa hgx;have HY:=aa y1;have HX:=aa hrx;have HB3:=aa B3;have i1:(0:Int)<=(k:Int):=by omega
     have i2:(k:Int)<(n0:Int):=by omega
     clear hcs hdj hv hrv hgx y1 hrx B3 b3 r0 r1 r2 r3 g0 g1 g3 k3 B1 b1 s3 hA fin hB hI hI' hM;go_wp2
     go_loopw [6,7] (fun sv i wr=>∃(j:Nat) (aj:Option Addr) (lj cj:Nat),j<=n1/\i=.int .i64 j/\sv=.slice aj lj cj/\aA.Rd w3 [.slice aj lj cj] ((cT (cs.take j) (k:Int)).getD x)/\lj<=2097152/\aN w3 wr) (fun _ i _=>n1-(intOf i).toNat)
     case atStart=>exact ⟨0,av,x.length,cv,Nat.zero_le _,rfl,rfl,HX.out,by omega,aN.refl _⟩
     obtain ⟨j,aj,lj,cj,hj,rfl,rfl,hrj,hlj,hs⟩:=hrel;have p1:=(hs.cell _).trans m1;have HRJ:=aa hrj;by_cases hjn:j<n1
     . rcases cY rfl HY.out with h0'|⟨bb,ob,rfl,hbb,hcs⟩
       . omega
       have hdj:cs[j]?=some (cs[j]'(by omega)):=List.getElem?_eq_getElem (by omega);have htk:cs.take (j+1)=cs.take j++[cs[j]'(by omega)]:=List.take_succ_eq_append_getElem (by omega);generalize cs[j]'(by omega)=y at hdj htk;have hil2:=cE hdj;obtain ⟨v0,v1,hv0,hv1,hry⟩:=hcs j y hdj;obtain ⟨rfl,hry'⟩:=eI hry;obtain ⟨ay,cy,rfl⟩:=az hry';have u0:=(hs.cell ⟨bb,ob+j*2,none⟩).trans hv0;have u1:=(hs.cell ⟨bb,ob+j*2+1,none⟩).trans hv1;obtain ⟨y0,y1⟩:=y;simp only at u0 u1 hry' hil2
       have hls:=jx (cs.take j) (y0,y1) (k:Int);rw [←htk] at hls;have HRY:=aa hry';by_cases hy:y0=(k:Int)
       . have HLS:Hid (cT (cs.take (j+1)) (k:Int)=some y1):=by unfold Hid;rw [hls];simp [hy]
         subst hy;clear hcs hdj hv0 hv1 hry hry' htk hls hrj;go_wp2
         go_roundw
         case rel=>exact ⟨j+1,ay,y1.length,cy,by omega,by go_num,rfl,by rw [HLS.out];exact HRY.out,by omega,hs⟩
         case measure=>simp [intOf];omega
       have HLS:Hid (cT (cs.take (j+1)) (k:Int)=cT (cs.take j) (k:Int)):=by unfold Hid;rw [hls];simp [hy]
       clear hcs hdj hv0 hv1 hry hry' htk hls hrj;go_wp2
       go_roundw
       case rel=>exact ⟨j+1,aj,lj,cj,by omega,by go_num,rfl,by rw [HLS.out];exact HRJ.out,hlj,hs⟩
       case measure=>simp [intOf];omega
     have e:j=n1:=by omega
     subst e;rw [List.take_of_length_le (by omega)] at hrj;have HF:=aa hrj;have HZ:Hid ((cT cs (k:Int)).getD (mK ss (k:Int))=(cT cs (k:Int)).getD x):=by unfold Hid;rw [HGX.out]
     generalize (cT cs (k:Int)).getD x=zs at hrj HF HZ;obtain ⟨i0,hi,hz0,hz1,hz2⟩:=info_parts Tryz.info3;have hBr:=Below.andSame HB3.out hs;have hsr:=hBr.size;have hO:bj .i64 3 (wr.alloc (.cells #[] 3)) wr.heap.size (.slice (some ⟨wr.heap.size,0,none⟩) 0 0) []:=bj.lit .i64 3 wr [] 0 #[] rfl rfl (by unfold maxLen;omega);have hA2:Below wr.heap.size wr (wr.alloc (.cells #[] 3)):=(Below.refl _ _).alloc (Nat.le_refl _) _;obtain ⟨hr,hlz,_,_⟩:=aP ((hrj.same hs).below hA2);have HO:=aa hO;have HR:=aa hr;have HA2:=aa (Below.andThen hBr hA2);clear hO hr hA2 hBr HRJ;match aj,hrj,HR,HF with
     | none,hrj,_,_=>
      obtain ⟨rfl,rfl,rfl⟩:=lC hrj;clear hrj;go_wp2_with (at_builtin;refine wpList_append_own_none rfl _ _ 31 rfl wr.heap.size 3 i0 1 Tryz.underlying31 hi _ 0 [] rfl ?_ rfl ?_;exact HO.out)
      go_ret2
      exact ⟨_,_,_,rfl,by rw [HZ.out];exact (aR HO.out).widen hsr (Nat.le_refl _),HA2.out⟩
     | some ad,hrj,HR,_=>
      clear hrj;go_wp2_with (at_builtin;refine cZ .i64 rfl _ _ 31 rfl wr.heap.size 3 i0 (.int .i64 0) 8 Tryz.underlying31 hi hz0 hz1 hz2 rfl _ [] rfl ?_ ad lj cj zs rfl hlz ?_ (by unfold maxLen;simp;omega) (by simp;omega) (by simp) ?_;exact HO.out;exact HR.out;intro v' w9 ho9 hb9;obtain ⟨a9,c9,hv9,_⟩:=ho9.shape;rw [List.nil_append,hlz] at hv9;rw [List.nil_append] at ho9;subst hv9)
      go_ret2
      exact ⟨_,_,_,rfl,by rw [HZ.out];exact (aR ho9).widen hsr (Nat.le_refl _),HA2.out.trans (hb9.mono hsr)⟩
   have hI:inB n 0 ((n0:Int)-1)=false:=by simpa using hI
   have hro:dV ss cs false bs n=false:=by unfold dV;rw [hM,hl0,hI];rfl
   have hrd:eK ss cs false bs n=[]:=by unfold eK;rw [hro];rfl
   rw [hro,hrd];clear hro hrd;go_enter Tryz.func269,Tryz.ntmps269
   go_wp2_with fail
   generalize hW:w.alloc (.cells #[.slice a0 n0 c0,.slice a1 n1 c1,.bool false,.slice a3 n3 c3] 101)=W at hA g0 g1 g3 q0 q1 q2 q3 zm ⊢;clear hW xm;refine (aW _ E _ _ _ _ _ _ _ _ _ ss cs false bs g0 g1 g3 hw).mono ?_
   rintro e w1 ⟨rfl,b1⟩;have r0:=(b1.cell (p:=⟨w.heap.size,0,none⟩) zm).trans q0;have r1:=(b1.cell (p:=⟨w.heap.size,1,none⟩) zm).trans q1;have r2:=(b1.cell (p:=⟨w.heap.size,2,none⟩) zm).trans q2;have r3:=(b1.cell (p:=⟨w.heap.size,3,none⟩) zm).trans q3;have B1:=Below.andThen hA b1;have z1:=Nat.lt_of_lt_of_le zm b1.size;clear q0 q1 q2 q3;have gw:IntKind.i64.wrap ((n0:Int)-1)=(n0:Int)-1:=IntWalk.i64_in _ (by omega);go_wp2_with fail
   refine (aE _ _ _ _).mono ?_
   rintro e w2 ⟨rfl,hw2⟩;subst w2;go_wp2
   go_ret2
   exact ⟨_,_,_,rfl,(fin _ B1).1,(fin _ B1).2⟩
 have hM:bp ss cs bs=false:=by simpa using hM
 have hro:dV ss cs f bs n=false:=by unfold dV;rw [hM];rfl
 have hrd:eK ss cs f bs n=[]:=by unfold eK;rw [hro];rfl
 rw [hro,hrd];clear hro hrd;go_enter Tryz.func269,Tryz.ntmps269
 go_wp2_with fail
 generalize hW:w.alloc (.cells #[.slice a0 n0 c0,.slice a1 n1 c1,.bool f,.slice a3 n3 c3] 101)=W at hA g0 g1 g3 q0 q1 q2 q3 zm ⊢;clear hW xm;refine (aW _ E _ _ _ _ _ _ _ _ _ ss cs f bs g0 g1 g3 hw).mono ?_
 rintro e w1 ⟨rfl,b1⟩;have r0:=(b1.cell (p:=⟨w.heap.size,0,none⟩) zm).trans q0;have r1:=(b1.cell (p:=⟨w.heap.size,1,none⟩) zm).trans q1;have r2:=(b1.cell (p:=⟨w.heap.size,2,none⟩) zm).trans q2;have r3:=(b1.cell (p:=⟨w.heap.size,3,none⟩) zm).trans q3;have B1:=Below.andThen hA b1;have z1:=Nat.lt_of_lt_of_le zm b1.size;clear q0 q1 q2 q3;go_wp2
 go_ret2
 exact ⟨_,_,_,rfl,(fin _ B1).1,(fin _ B1).2⟩
def nx (ms:List ai) (m:Int):ai:=ms.getD m.toNat ([],[],false,[])
def sec6 (ms:List ai) (m s:Int):List Int:=eK (nx ms m).1 (nx ms m).2.1 (nx ms m).2.2.1 (nx ms m).2.2.2 (bV s)
def iM (x:al) (ms:List ai) (m s:Int):Bool:=cM x ms m s&&(dV (nx ms m).1 (nx ms m).2.1 (nx ms m).2.2.1 (nx ms m).2.2.2 (bV s)&&decide ((sec6 ms m s).length=1))
def gj (x:al) (ms:List ai) (m s:Int):Int:=if iM x ms m s=true then (sec6 ms m s).getD 0 0 else 0
theorem tc {x:al} {ms:List ai} {m s:Int} (h:cM x ms m s=false):iM x ms m s=false:=by unfold iM;rw [h];rfl
theorem uy {x:al} {ms:List ai} {m s:Int} (h:iM x ms m s=false):gj x ms m s=0:=by unfold gj;rw [if_neg (by simp [h])]
theorem uz {x:al} {ms:List ai} {m s:Int} (h:iM x ms m s=true):gj x ms m s=(sec6 ms m s).getD 0 0:=by unfold gj;rw [if_pos h]
theorem vz {x:al} {ms:List ai} {m s:Int} (h:cM x ms m s=true):0<=m/\m<(ms.length:Int):=by
 unfold cM inB at h;simp only [Bool.and_eq_true,decide_eq_true_eq] at h
 omega
theorem mL {x:al} {ms:List ai} {m s:Int} (h:iM x ms m s=false):Ending.returned (.tuple #[.int .i64 0,.bool false])=.returned (.tuple #[.int .i64 (gj x ms m s),.bool (iM x ms m s)]):=by rw [uy h,h]
theorem rk (w:World) (E F:TypeId) (x:al) (am ad:Option Addr) (nm cm nd cd:Nat) (ms:List ai) (m s:Int) (h0:(bt E F).Rd w [.slice am nm cm] ms) (hw:aV ms<=2097152):
 Calls Tryz.prog 248 #[.agg #[.int .i64 x.id,.int .i64 x.n,.int .i64 x.s,.slice am nm cm,.int .i64 x.lost,.int .i64 x.vG,.int .i64 x.seq,.int .i64 x.tail,.int .i64 x.gen,.slice ad nd cd,.int .i64 x.vI,.bool x.down,.bool x.vH],.int .i64 m,.int .i64 s] w fun e w'=>e=.returned (.tuple #[.int .i64 (gj x ms m s),.bool (iM x ms m s)])/\Below w.heap.size w w':=by
 obtain ⟨hl,hc,hm⟩:=af h0;have hnm:nm<=2097152:=by unfold aV at hw;omega
 have hA:=ae w (.cells #[.int .i64 x.id,.int .i64 x.n,.int .i64 x.s,.slice am nm cm,.int .i64 x.lost,.int .i64 x.vG,.int .i64 x.seq,.int .i64 x.tail,.int .i64 x.gen,.slice ad nd cd,.int .i64 x.vI,.bool x.down,.bool x.vH] 29);have X:=Box.new w 29 #[.int .i64 x.id,.int .i64 x.n,.int .i64 x.s,.slice am nm cm,.int .i64 x.lost,.int .i64 x.vG,.int .i64 x.seq,.int .i64 x.tail,.int .i64 x.gen,.slice ad nd cd,.int .i64 x.vI,.bool x.down,.bool x.vH];obtain ⟨k0,k1,k2,k3,k4,k5,k6,k7,k8,k9,k10,k11,k12⟩:=X.cells13;have zA:=X.lt;have h1:=h0.below hA;go_enter Tryz.func248,Tryz.ntmps248
 go_wp2_with fail
 generalize w.alloc (.cells #[.int .i64 x.id,.int .i64 x.n,.int .i64 x.s,.slice am nm cm,.int .i64 x.lost,.int .i64 x.vG,.int .i64 x.seq,.int .i64 x.tail,.int .i64 x.gen,.slice ad nd cd,.int .i64 x.vI,.bool x.down,.bool x.vH] 29)=W at hA X zA h1 k0 k1 k2 k3 k4 k5 k6 k7 k8 k9 k10 k11 k12 ⊢;refine (fX _ E F x _ _ _ _ _ _ ms m s h1 hw).mono ?_
 rintro e w1 ⟨rfl,b1⟩;have X1:=X.below b1 zA;have B1:=Below.andThen hA b1;have h2:=h1.below b1;clear k0 k1 k2 k3 k4 k5 k6 k7 k8 k9 k10 k11 k12 X b1 hA zA h1;obtain ⟨k0,k1,k2,k3,k4,k5,k6,k7,k8,k9,k10,k11,k12⟩:=X1.cells13;cases hlv:cM x ms m s
 . have HF:=aa (mL (tc hlv))
   go_wp2
   refine bodyPost_ret (v:=.tuple #[.int .i64 0,.bool false]) (by simp [results,Tryz.results248,go_sem]) rfl ?_
   exact ⟨HF.out,B1⟩
 obtain ⟨m1,m2⟩:=vz hlv;obtain ⟨j,rfl⟩:=Int.eq_ofNat_of_zero_le m1;rcases dW rfl h2 with h0'|⟨b,off,rfl,hbl,hcs⟩
 . omega
 have hdj:ms[j]?=some (ms[j]'(by omega)):=List.getElem?_eq_getElem (by omega);generalize ms[j]'(by omega)=d at hdj;obtain ⟨v0,v1,v2,v3,hv0,hv1,hv2,hv3,hrv⟩:=hcs j d hdj;obtain ⟨a0,c0,a1,c1,a3,c3,ss,cs,f,bs,rfl,rfl,rfl,rfl,rfl,r0,r1,r3⟩:=fR hrv;have hwm:=Nat.le_trans (eN hdj) hw;have hmd:nx ms (j:Int)=(ss,cs,f,bs):=by unfold nx;rw [Int.toNat_natCast,List.getD_eq_getElem?_getD,hdj];rfl
 have hsec:sec6 ms (j:Int) s=eK ss cs f bs (bV s):=by unfold sec6;rw [hmd]
 have hhas:iM x ms (j:Int) s=(dV ss cs f bs (bV s)&&decide ((eK ss cs f bs (bV s)).length=1)):=by unfold iM;rw [hlv,hsec,hmd];rfl
 have hwd:iM x ms (j:Int) s=true->gj x ms (j:Int) s=(eK ss cs f bs (bV s)).getD 0 0:=fun h=>by rw [uz h,hsec]
 have HH:=aa hhas;have HWD:=aa hwd;have i1:(0:Int)<=(j:Int):=by omega
 have i2:(j:Int)<(nm:Int):=by omega
 clear hcs hrv hdj hmd hsec hhas hwd m1 m2;have zb:b<w1.heap.size:=hbl;have zx:=X1.lt;go_wp2_with fail
 refine wp_region_held_drew (S:=fun w'=>w'.cell? ⟨w.heap.size,3,none⟩=some (.slice (some ⟨b,off,none⟩) nm cm)/\w'.cell? ⟨b,off+j*4,none⟩=some (.slice a0 ss.length c0)/\w'.cell? ⟨b,off+j*4+1,none⟩=some (.slice a1 cs.length c1)/\w'.cell? ⟨b,off+j*4+2,none⟩=some (.bool f)/\w'.cell? ⟨b,off+j*4+3,none⟩=some (.slice a3 bs.length c3)) (by kernel_rfl) ?_ (fun vF=>?_)
 . exact ⟨k3,hv0,hv1,hv2,hv3⟩
 refine cX (i:=0) (v:=?_) rfl (by kernel_rfl) (by kernel_rfl) (by kernel_rfl) (fun _ _ _ h=>h) (by kernel_rfl) ?_ vF ?_
 rotate_left 1
 . (intro w hSw;(try dsimp only at hSw);go_split_ands;go_simp;first|done|with_reducible rfl)
 simp only [Act.put,List.setIfInBounds_toArray,List.set_cons_zero,List.set_cons_succ]
 refine cX (i:=1) (v:=?_) rfl (by kernel_rfl) (by kernel_rfl) (by kernel_rfl) (fun _ _ _ h=>h) (by kernel_rfl) ?_ vF ?_
 rotate_left 1
 . (intro w hSw;(try dsimp only at hSw);go_split_ands;go_simp;first|done|with_reducible rfl)
 simp only [Act.put,List.setIfInBounds_toArray,List.set_cons_zero,List.set_cons_succ]
 refine cX (i:=2) (v:=?_) rfl (by kernel_rfl) (by kernel_rfl) (by kernel_rfl) (fun _ _ _ h=>h) (by kernel_rfl) ?_ vF ?_
 rotate_left 1
 . (intro w hSw;(try dsimp only at hSw);go_split_ands;go_simp;first|done|with_reducible rfl)
 simp only [Act.put,List.setIfInBounds_toArray,List.set_cons_zero,List.set_cons_succ]
 refine cX (i:=3) (v:=?_) rfl (by kernel_rfl) (by kernel_rfl) (by kernel_rfl) (fun _ _ _ h=>h) (by kernel_rfl) ?_ vF ?_
 rotate_left 1
 . (intro w hSw;(try dsimp only at hSw);go_split_ands;go_simp;first|done|with_reducible rfl)
 simp only [Act.put,List.setIfInBounds_toArray,List.set_cons_zero,List.set_cons_succ]
 refine cX (i:=4) (v:=?_) rfl (by kernel_rfl) (by kernel_rfl) (by kernel_rfl) (fun _ _ _ h=>h) (by kernel_rfl) ?_ vF ?_
 rotate_left 1
 . (intro w hSw;(try dsimp only at hSw);go_split_ands;go_simp;first|done|with_reducible rfl)
 simp only [Act.put,List.setIfInBounds_toArray,List.set_cons_zero,List.set_cons_succ]
 refine cX (i:=5) (v:=?_) rfl (by kernel_rfl) (by kernel_rfl) (by kernel_rfl) (fun _ _ _ h=>h) (by kernel_rfl) ?_ vF ?_
 rotate_left 1
 . (intro w hSw;(try dsimp only at hSw);go_split_ands;go_simp;first|done|with_reducible rfl)
 simp only [Act.put,List.setIfInBounds_toArray,List.set_cons_zero,List.set_cons_succ]
 refine aq (i:=6) (by kernel_rfl) rfl (by kernel_rfl) (fun K hK=>?_)
 go_simp
 refine (cz _ _).mono ?_
 rintro e w2 ⟨rfl,hw2⟩;subst hw2;go_wp2_with fail
 clear vF;refine hK.out _ _ ?_ (fun vF=>?_)
 . exact ⟨k3,hv0,hv1,hv2,hv3⟩
 clear hK K;refine aq (i:=7) (by kernel_rfl) rfl (by kernel_rfl) (fun K hK=>?_)
 go_simp
 refine (lv _ E _ _ _ _ _ _ _ _ _ ss cs f bs (bV s) r0.drew r1.drew r3.drew hwm).mono ?_
 rintro e w3 ⟨a',l,c',rfl,o3,b3⟩;have b3':Below w1.heap.size w1 w3:=(Below.refl w1.heap.size w1).drew.trans b3;clear b3;go_wp2_with fail
 clear vF;refine hK.out _ _ ?_ (fun vF=>?_)
 . exact ⟨(b3'.cell (p:=⟨w.heap.size,3,none⟩) zx).trans k3,(b3'.cell (p:=⟨b,off+j*4,none⟩) zb).trans hv0,(b3'.cell (p:=⟨b,off+j*4+1,none⟩) zb).trans hv1,(b3'.cell (p:=⟨b,off+j*4+2,none⟩) zb).trans hv2,(b3'.cell (p:=⟨b,off+j*4+3,none⟩) zb).trans hv3⟩
 clear hK K;refine cX (i:=8) (v:=?_) rfl (by kernel_rfl) (by kernel_rfl) (by kernel_rfl) (fun _ _ _ h=>h) (by kernel_rfl) ?_ vF ?_
 rotate_left 1
 . (intro w hSw;(try dsimp only at hSw);go_split_ands;go_simp;first|done|with_reducible rfl)
 simp only [Act.put,List.setIfInBounds_toArray,List.set_cons_zero,List.set_cons_succ]
 refine cX (i:=9) (v:=?_) rfl (by kernel_rfl) (by kernel_rfl) (by kernel_rfl) (fun _ _ _ h=>h) (by kernel_rfl) ?_ vF ?_
 rotate_left 1
 . (intro w hSw;(try dsimp only at hSw);go_split_ands;go_simp;first|done|with_reducible rfl)
 simp only [Act.put,List.setIfInBounds_toArray,List.set_cons_zero,List.set_cons_succ]
 refine cX (i:=10) (v:=?_) rfl (by kernel_rfl) (by kernel_rfl) (by kernel_rfl) (fun _ _ _ h=>h) (by kernel_rfl) ?_ vF ?_
 rotate_left 1
 . (intro w hSw;(try dsimp only at hSw);go_split_ands;go_simp;first|done|with_reducible rfl)
 simp only [Act.put,List.setIfInBounds_toArray,List.set_cons_zero,List.set_cons_succ]
 refine cX (i:=11) (v:=?_) rfl (by kernel_rfl) (by kernel_rfl) (by kernel_rfl) (fun _ _ _ h=>h) (by kernel_rfl) ?_ vF ?_
 rotate_left 1
 . (intro w hSw;(try dsimp only at hSw);go_split_ands;go_simp;first|done|with_reducible rfl)
 simp only [Act.put,List.setIfInBounds_toArray,List.set_cons_zero,List.set_cons_succ]
 refine cX (i:=12) (v:=?_) rfl (by kernel_rfl) (by kernel_rfl) (by kernel_rfl) (fun _ _ _ h=>h) (by kernel_rfl) ?_ vF ?_
 rotate_left 1
 . (intro w hSw;(try dsimp only at hSw);go_split_ands;go_simp;first|done|with_reducible rfl)
 simp only [Act.put,List.setIfInBounds_toArray,List.set_cons_zero,List.set_cons_succ]
 refine wpAnyH_done (by kernel_rfl) ?_ _
 clear vF;have B3:=Below.andThen B1 b3';obtain ⟨rd3,hl3,_,_⟩:=aP o3.rd;clear o3 b3' r0 r1 r3 hv0 hv1 hv2 hv3 k0 k1 k2 k3 k4 k5 k6 k7 k8 k9 k10 k11 k12 X1 B1 h2;generalize eK ss cs f bs (bV s)=L at rd3 hl3 HH HWD;generalize dV ss cs f bs (bV s)=ok at HH ⊢;cases ok
 . have HF:=aa (mL (x:=x) (ms:=ms) (m:=(j:Int)) (s:=s) (by rw [HH.out];rfl))
   go_wp2
   refine bodyPost_ret (v:=.tuple #[.int .i64 0,.bool false]) (by simp [results,Tryz.results248,go_sem]) rfl ?_
   exact ⟨HF.out,B3⟩
 by_cases h1:l=1
 . subst h1
   obtain ⟨z,rfl⟩:∃z,L=[z]:=by
    match L,hl3 with
    | [z],_=>exact ⟨z,rfl⟩
   have hT:iM x ms (j:Int) s=true:=by rw [HH.out];rfl
   have HF:Hid (Ending.returned (.tuple #[.int .i64 z,.bool true])=.returned (.tuple #[.int .i64 (gj x ms (j:Int) s),.bool (iM x ms (j:Int) s)])):=by unfold Hid;rw [HWD.out hT,hT];rfl
   rcases rd3.cases with h0''|⟨b',off',rfl,hb',hc'⟩
   . simp at h0''
   have q0:w3.cell? ⟨b',off',none⟩=some (.int .i64 z):=hc' 0 (by simp);clear hc' hT;go_wp2
   refine bodyPost_ret (v:=.tuple #[.int .i64 z,.bool true]) (by simp [results,Tryz.results248,go_sem]) rfl ?_
   exact ⟨HF.out,B3⟩
 have HF:=aa (mL (x:=x) (ms:=ms) (m:=(j:Int)) (s:=s) (by rw [HH.out,hl3];simp [h1]));have e1:((l:Int)==1)=false:=by simp;omega
 have e2:((l:Int) !=1)=true:=by simp;omega
 go_wp2
 refine bodyPost_ret (v:=.tuple #[.int .i64 0,.bool false]) (by simp [results,Tryz.results248,go_sem]) rfl ?_
 exact ⟨HF.out,B3⟩
end Go.Proofs.YtejeekndbnpmoaaGreat

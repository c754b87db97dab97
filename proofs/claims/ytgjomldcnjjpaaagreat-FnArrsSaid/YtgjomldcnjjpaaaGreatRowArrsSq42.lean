/-
 GetBlock of both sides walked. Condition: the array weighs at most 2097152.
-/
import Derived.Test.YtgjomldcnjjpaaaGreatRowArrsSq28
import Derived.Test.YtgjomldcnjjpaaaGreatRowArrsSq36
import Derived.Test.YtgjomldcnjjpaaaGreatRowArrsSq18
import Derived.Test.YtgjomldcnjjpaaaGreatRowArrsSq1
import Derived.Deep.Cut
import Derived.Test.YtgjomldcnjjpaaaGreatRowArrsSq19
import Derived.Test.YtgjomldcnjjpaaaGreatRowArrsSq32
import Derived.Test.YtgjomldcnjjpaaaGreatRowArrsSq30
import Derived.Test.YtgjomldcnjjpaaaGreatRowArrsSq37
import Derived.Test.YtgjomldcnjjpaaaGreatRowArrsSq7

set_option maxRecDepth 100000
set_option maxHeartbeats 8000000
set_option linter.unusedSimpArgs false

namespace Go.Proofs.YtgjomldcnjjpaaaGreat
open Go.RowKit

theorem oP (w:World) (E F:TypeId) (s:Sup) (am:Option Addr) (nm cm:Nat) (ms:List ai) (h0:(bI E F).Rd w [.slice am nm cm] ms) (hw:aQ ms<=2097152):
 Calls Tryz.prog 47 #[.agg #[.int .i64 s.id,.int .i64 s.gen,.int .i64 s.role,.int .i64 s.n,.int .i64 s.s,.int .i64 s.tail,.int .i64 s.lost,.int .i64 s.xW],.slice am nm cm] w fun e w'=>wt w w' e (bT s,ms) []:=by
 obtain ⟨rfl,_⟩:=ag h0;have zz:∀u:World,∀ob:Obj,(u.alloc ob).heap.size=u.heap.size+1:=fun u ob=>by simp
 have hA:=((af w (.cells #[.int .i64 s.id,.int .i64 s.gen,.int .i64 s.role,.int .i64 s.n,.int .i64 s.s,.int .i64 s.tail,.int .i64 s.lost,.int .i64 s.xW] 71)).alloc (by simp) (.cells #[.int .i64 0,.int .i64 0,.int .i64 0,.slice none 0 0,.int .i64 0,.int .i64 0,.int .i64 0,.int .i64 0,.int .i64 0,.slice none 0 0,.int .i64 0,.bool false,.bool false] 31)).alloc (by simp;omega) (.cells #[.int .i64 s.id,.int .i64 s.n,.int .i64 s.s,.slice am ms.length cm,.int .i64 s.lost,.int .i64 s.xW,.int .i64 0,.int .i64 0,.int .i64 0,.slice none 0 0,.int .i64 0,.bool false,.bool false] 31);have S0:=((Box.new w 71 #[.int .i64 s.id,.int .i64 s.gen,.int .i64 s.role,.int .i64 s.n,.int .i64 s.s,.int .i64 s.tail,.int .i64 s.lost,.int .i64 s.xW]).alloc (.cells #[.int .i64 0,.int .i64 0,.int .i64 0,.slice none 0 0,.int .i64 0,.int .i64 0,.int .i64 0,.int .i64 0,.int .i64 0,.slice none 0 0,.int .i64 0,.bool false,.bool false] 31)).alloc (.cells #[.int .i64 s.id,.int .i64 s.n,.int .i64 s.s,.slice am ms.length cm,.int .i64 s.lost,.int .i64 s.xW,.int .i64 0,.int .i64 0,.int .i64 0,.slice none 0 0,.int .i64 0,.bool false,.bool false] 31);have R0:=(Box.new (w.alloc (.cells #[.int .i64 s.id,.int .i64 s.gen,.int .i64 s.role,.int .i64 s.n,.int .i64 s.s,.int .i64 s.tail,.int .i64 s.lost,.int .i64 s.xW] 71)) 31 #[.int .i64 0,.int .i64 0,.int .i64 0,.slice none 0 0,.int .i64 0,.int .i64 0,.int .i64 0,.int .i64 0,.int .i64 0,.slice none 0 0,.int .i64 0,.bool false,.bool false]).alloc (.cells #[.int .i64 s.id,.int .i64 s.n,.int .i64 s.s,.slice am ms.length cm,.int .i64 s.lost,.int .i64 s.xW,.int .i64 0,.int .i64 0,.int .i64 0,.slice none 0 0,.int .i64 0,.bool false,.bool false] 31);have X0:=Box.new ((w.alloc (.cells #[.int .i64 s.id,.int .i64 s.gen,.int .i64 s.role,.int .i64 s.n,.int .i64 s.s,.int .i64 s.tail,.int .i64 s.lost,.int .i64 s.xW] 71)).alloc (.cells #[.int .i64 0,.int .i64 0,.int .i64 0,.slice none 0 0,.int .i64 0,.int .i64 0,.int .i64 0,.int .i64 0,.int .i64 0,.slice none 0 0,.int .i64 0,.bool false,.bool false] 31)) 31 #[.int .i64 s.id,.int .i64 s.n,.int .i64 s.s,.slice am ms.length cm,.int .i64 s.lost,.int .i64 s.xW,.int .i64 0,.int .i64 0,.int .i64 0,.slice none 0 0,.int .i64 0,.bool false,.bool false];rw [zz] at R0;rw [zz,zz] at X0;obtain ⟨q0,q1',q2,q3,q4,q5,q6,q7⟩:=S0.cells8;go_enter Tryz.func47,Tryz.ntmps47
 go_upto_region 2 with fail
 generalize ((w.alloc (.cells #[.int .i64 s.id,.int .i64 s.gen,.int .i64 s.role,.int .i64 s.n,.int .i64 s.s,.int .i64 s.tail,.int .i64 s.lost,.int .i64 s.xW] 71)).alloc (.cells #[.int .i64 0,.int .i64 0,.int .i64 0,.slice none 0 0,.int .i64 0,.int .i64 0,.int .i64 0,.int .i64 0,.int .i64 0,.slice none 0 0,.int .i64 0,.bool false,.bool false] 31)).alloc (.cells #[.int .i64 s.id,.int .i64 s.n,.int .i64 s.s,.slice am ms.length cm,.int .i64 s.lost,.int .i64 s.xW,.int .i64 0,.int .i64 0,.int .i64 0,.slice none 0 0,.int .i64 0,.bool false,.bool false] 31)=w2 at hA S0 R0 X0 q0 q1' q2 q3 q4 q5 q6 q7 ⊢;have zX:=X0.lt;obtain ⟨SB,hSB⟩:∃SB,w.heap.size=SB:=⟨_,rfl⟩;obtain ⟨RB,hRB⟩:∃RB,w.heap.size+1=RB:=⟨_,rfl⟩;obtain ⟨AB,hAB⟩:∃AB,w.heap.size+1+1=AB:=⟨_,rfl⟩;rw [hAB] at X0 zX ⊢;rw [hRB] at R0 ⊢;rw [hSB] at S0 q0 q1' q2 q3 q4 q5 q6 q7 ⊢;have q1:w.heap.size<=SB/\SB<RB/\RB<AB:=by omega
 clear hSB hRB hAB zz;have n1:¬SB=AB:=by omega
 have n2:¬AB=SB:=by omega
 have n3:¬RB=AB:=by omega
 have n4:¬AB=RB:=by omega
 obtain ⟨t0,t1,t2,t3,t4,t5,t6,t7,t8,t9,t10,t11,t12⟩:=X0.cells13;have fz:=X0.frozen;have hbt:But AB (AB+1) w2 (((((w2).setCell ⟨AB,6,none⟩ (.int .i64 s.tail)).setCell ⟨AB,7,none⟩ (.int .i64 s.tail)).setCell ⟨AB,8,none⟩ (.int .i64 s.gen)).setCell ⟨AB,10,none⟩ (.int .i64 (-1))):=(((But.setCell (Nat.le_refl AB) (Nat.lt_succ_self AB) _).trans (But.setCell (Nat.le_refl AB) (Nat.lt_succ_self AB) _)).trans (But.setCell (Nat.le_refl AB) (Nat.lt_succ_self AB) _)).trans (But.setCell (Nat.le_refl AB) (Nat.lt_succ_self AB) _);have X1:Hid (Box (((((w2).setCell ⟨AB,6,none⟩ (.int .i64 s.tail)).setCell ⟨AB,7,none⟩ (.int .i64 s.tail)).setCell ⟨AB,8,none⟩ (.int .i64 s.gen)).setCell ⟨AB,10,none⟩ (.int .i64 (-1))) AB 31 #[.int .i64 s.id,.int .i64 s.n,.int .i64 s.s,.slice am ms.length cm,.int .i64 s.lost,.int .i64 s.xW,.int .i64 s.tail,.int .i64 s.tail,.int .i64 s.gen,.slice none 0 0,.int .i64 (-1),.bool false,.bool false]):=(((X0.set 6 _).set 7 _).set 8 _).set 10 _;have R1:=aa (R0.kept (hbt.block _ R0.lt (by omega)));have B1:=aa (Below.andBut hA hbt (by omega));have m1:∀w':World,w'.heap[SB]?=w2.heap[SB]?->w'.cell? ⟨SB,5,none⟩=some (.int .i64 s.tail)/\w'.cell? ⟨SB,1,none⟩=some (.int .i64 s.gen):=fun w' h=>⟨(S0.kept h).cell 5,(S0.kept h).cell 1⟩;have g0:w2.drew.cell? ⟨SB,5,none⟩=some (.int .i64 s.tail)/\w2.drew.cell? ⟨SB,1,none⟩=some (.int .i64 s.gen):=⟨q5,q1'⟩;have hS7:((w2).setCell ⟨AB,6,none⟩ (.int .i64 s.tail)).drew.cell? ⟨SB,5,none⟩=some (.int .i64 s.tail)/\((w2).setCell ⟨AB,6,none⟩ (.int .i64 s.tail)).drew.cell? ⟨SB,1,none⟩=some (.int .i64 s.gen):=m1 _ (by simp only [World.drew];rw [Below.heap_setCell _ _ _ _ n1]);have hS9:(((w2).setCell ⟨AB,6,none⟩ (.int .i64 s.tail)).setCell ⟨AB,7,none⟩ (.int .i64 s.tail)).drew.cell? ⟨SB,5,none⟩=some (.int .i64 s.tail)/\(((w2).setCell ⟨AB,6,none⟩ (.int .i64 s.tail)).setCell ⟨AB,7,none⟩ (.int .i64 s.tail)).drew.cell? ⟨SB,1,none⟩=some (.int .i64 s.gen):=m1 _ (by simp only [World.drew];rw [Below.heap_setCell _ _ _ _ n1,Below.heap_setCell _ _ _ _ n1]);have hS11:((((w2).setCell ⟨AB,6,none⟩ (.int .i64 s.tail)).setCell ⟨AB,7,none⟩ (.int .i64 s.tail)).setCell ⟨AB,8,none⟩ (.int .i64 s.gen)).drew.cell? ⟨SB,5,none⟩=some (.int .i64 s.tail)/\((((w2).setCell ⟨AB,6,none⟩ (.int .i64 s.tail)).setCell ⟨AB,7,none⟩ (.int .i64 s.tail)).setCell ⟨AB,8,none⟩ (.int .i64 s.gen)).drew.cell? ⟨SB,1,none⟩=some (.int .i64 s.gen):=m1 _ (by simp only [World.drew];rw [Below.heap_setCell _ _ _ _ n1,Below.heap_setCell _ _ _ _ n1,Below.heap_setCell _ _ _ _ n1]);have hS13:(((((w2).setCell ⟨AB,6,none⟩ (.int .i64 s.tail)).setCell ⟨AB,7,none⟩ (.int .i64 s.tail)).setCell ⟨AB,8,none⟩ (.int .i64 s.gen)).setCell ⟨AB,10,none⟩ (.int .i64 (-1))).drew.cell? ⟨SB,5,none⟩=some (.int .i64 s.tail)/\(((((w2).setCell ⟨AB,6,none⟩ (.int .i64 s.tail)).setCell ⟨AB,7,none⟩ (.int .i64 s.tail)).setCell ⟨AB,8,none⟩ (.int .i64 s.gen)).setCell ⟨AB,10,none⟩ (.int .i64 (-1))).drew.cell? ⟨SB,1,none⟩=some (.int .i64 s.gen):=m1 _ (by simp only [World.drew];rw [Below.heap_setCell _ _ _ _ n1,Below.heap_setCell _ _ _ _ n1,Below.heap_setCell _ _ _ _ n1,Below.heap_setCell _ _ _ _ n1]);refine wp_region_held_drew (S:=fun w'=>w'.cell? ⟨SB,5,none⟩=some (.int .i64 s.tail)/\w'.cell? ⟨SB,1,none⟩=some (.int .i64 s.gen)) (by kernel_rfl) ?_ (fun xV=>?_)
 . exact g0
 refine ae 0 xV ?_
 refine ae 1 xV ?_
 refine ae 2 xV ?_
 refine ae 3 xV ?_
 refine ae 4 xV ?_
 refine ae 5 xV ?_
 refine ae 6 xV ?_
 refine aw (i:=7) (by kernel_rfl) rfl (by kernel_rfl) (fun K hK=>?_)
 go_simp
 clear xV;refine hK.out _ _ ?_ (fun xV=>?_)
 . exact hS7
 clear hK K;refine ae 8 xV ?_
 refine aw (i:=9) (by kernel_rfl) rfl (by kernel_rfl) (fun K hK=>?_)
 go_simp
 clear xV;refine hK.out _ _ ?_ (fun xV=>?_)
 . exact hS9
 clear hK K;refine ae 10 xV ?_
 refine aw (i:=11) (by kernel_rfl) rfl (by kernel_rfl) (fun K hK=>?_)
 go_simp
 clear xV;refine hK.out _ _ ?_ (fun xV=>?_)
 . exact hS11
 clear hK K;refine ae 12 xV ?_
 refine aw (i:=13) (by kernel_rfl) rfl (by kernel_rfl) (fun K hK=>?_)
 go_simp
 clear xV;refine hK.out _ _ ?_ (fun xV=>?_)
 . exact hS13
 clear hK K;clear xV;generalize ((((w2).setCell ⟨AB,6,none⟩ (.int .i64 s.tail)).setCell ⟨AB,7,none⟩ (.int .i64 s.tail)).setCell ⟨AB,8,none⟩ (.int .i64 s.gen)).setCell ⟨AB,10,none⟩ (.int .i64 (-1))=w3 at X1 R1 B1 ⊢;clear q0 q1' q2 q3 q4 q5 q6 q7 t0 t1 t2 t3 t4 t5 t6 t7 t8 t9 t10 t11 t12 fz hbt g0 m1 S0 R0 X0 hA;refine wpAnyH_done (by kernel_rfl) ?_ _
 clear hS7 hS9 hS11 hS13;have h1:(aW 93).Rd w3 [.slice none 0 0] []:=(cP (t:=tWr) (E:=93) w3).rd;have p0:=h0.below B1.out;obtain ⟨t0,t1,t2,t3,t4,t5,t6,t7,t8,t9,t10,t11,t12⟩:=X1.out.cells13;have zR:=R1.out.lt;have zB:=B1.out.size;go_wp2_with fail
 refine (sE _ E F 93 (bT s) _ _ _ _ _ _ ms [] p0.drew h1.drew (by unfold bh;have:aX []=0:=rfl;omega)).mono ?_
 rintro e w5 ⟨bm,cm1,bd,cd1,m,rfl,om,od,zm,zm2,b1⟩;have b1':Below w3.heap.size w3 w5:=(Below.refl w3.heap.size w3).drew.trans b1;have R2:=R1.out.below b1' zR;have B2:=Below.andThen B1.out b1';obtain ⟨fm,mm,rm⟩:=om.mine;obtain ⟨fd,md,rd⟩:=od.mine;have rm2:∀b∈fm,w3.heap.size<=b:=fun b hb=>(rm b hb).1;have rd2:∀b∈fd,w3.heap.size<=b:=fun b hb=>by have h2:=(rd b hb).1;have h3:w3.heap.size<=m:=zm;omega
 have HO:=aa (xL (y:=bT s) (ds:=[]) (vd:=bd) (cvd:=cd1) (e:=.returned (.agg (bH (bT s) _ _))) B2 R2 rfl mm md (fun b hb hb'=>by have h1:=rm b hb;have h2:=rd b hb';omega) rm2 rd2 (by omega) zR);unfold bH at HO;simp only [fa,List.length_nil] at HO
 obtain ⟨r0,r1,r2,r3,r4,r5,r6,r7,r8,r9,r10,r11,r12⟩:=R2.cells13;have fz2:=R2.frozen;clear t0 t1 t2 t3 t4 t5 t6 t7 t8 t9 t10 t11 t12 X1 R1 B1 b1 b1' om od mm md R2 B2 p0 h1;go_wp2
 refine bodyPost_ret (v:=.agg #[.int .i64 (bT s).id,.int .i64 (bT s).n,.int .i64 (bT s).s,.slice bm ms.length cm1,.int .i64 (bT s).lost,.int .i64 (bT s).xW,.int .i64 (bT s).seq,.int .i64 (bT s).tail,.int .i64 (bT s).gen,.slice bd 0 cd1,.int .i64 (bT s).xY,.bool (bT s).down,.bool (bT s).xX]) (by simp [results,Tryz.results47,go_sem,r0,r1,r2,r3,r4,r5,r6,r7,r8,r9,r10,r11,r12]) rfl ?_
 exact HO.out
theorem lW (w:World) (E F:TypeId) (a:Option Addr) (n cap:Nat) (ms:List ai) (id:Int) (h0:(bI E F).Rd w [.slice a n cap] ms) (hw:aQ ms<=2097152):
 Calls Tryz.prog 15 #[.slice a n cap,.int .i64 id] w fun e w'=>nf w w' e (mP ms id).1 (mP ms id).2 []:=by
 obtain ⟨rfl,hc,hm⟩:=ag h0;have hn:ms.length<=2097152:=by unfold aQ at hw;omega
 have hA:=af w (.cells #[.int .i64 0,.int .i64 0,.int .i64 0,.slice none 0 0,.int .i64 0,.int .i64 0,.int .i64 0,.int .i64 0,.int .i64 0,.slice none 0 0,.int .i64 0,.bool false,.bool false] 31);have R0:=Box.new w 31 #[.int .i64 0,.int .i64 0,.int .i64 0,.slice none 0 0,.int .i64 0,.int .i64 0,.int .i64 0,.int .i64 0,.int .i64 0,.slice none 0 0,.int .i64 0,.bool false,.bool false];have zR:=R0.lt;go_enter Tryz.func15,Tryz.ntmps15
 go_wp2_with fail
 generalize w.alloc (.cells #[.int .i64 0,.int .i64 0,.int .i64 0,.slice none 0 0,.int .i64 0,.int .i64 0,.int .i64 0,.int .i64 0,.int .i64 0,.slice none 0 0,.int .i64 0,.bool false,.bool false] 31)=W at hA R0 zR ⊢;refine (mU _ E F _ _ _ ms id (h0.below hA) hw).mono ?_
 rintro e w1 ⟨rfl,b1⟩;have R1:=R0.below b1 zR;have B1:=Below.andThen hA b1;have z1:=B1.size;have zR1:=R1.lt;have HID:=aa (sY (ms:=ms) (id:=id) ms.length);generalize hST:bR ms id ms.length=yf at HID ⊢;have HST:=aa hST;obtain ⟨y,fb⟩:=yf;dsimp only
 clear hST R0 hA b1;have S3:=Box.new w1 71 #[.int .i64 y.id,.int .i64 y.gen,.int .i64 y.role,.int .i64 y.n,.int .i64 y.s,.int .i64 y.tail,.int .i64 y.lost,.int .i64 y.xW];have R3:=aa (R1.alloc (.cells #[.int .i64 y.id,.int .i64 y.gen,.int .i64 y.role,.int .i64 y.n,.int .i64 y.s,.int .i64 y.tail,.int .i64 y.lost,.int .i64 y.xW] 71));have B3:=aa (B1.alloc z1 (.cells #[.int .i64 y.id,.int .i64 y.gen,.int .i64 y.role,.int .i64 y.n,.int .i64 y.s,.int .i64 y.tail,.int .i64 y.lost,.int .i64 y.xW] 71));obtain ⟨x0,x1,x2,x3,x4,x5,x6,x7⟩:=S3.cells8;have HS3:=aa S3;have hz2:(w1.alloc (.cells #[.int .i64 y.id,.int .i64 y.gen,.int .i64 y.role,.int .i64 y.n,.int .i64 y.s,.int .i64 y.tail,.int .i64 y.lost,.int .i64 y.xW] 71)).heap.size=w1.heap.size+1:=by simp
 clear R1 B1 S3;go_upto_region 2 with fail
 generalize w1.alloc (.cells #[.int .i64 y.id,.int .i64 y.gen,.int .i64 y.role,.int .i64 y.n,.int .i64 y.s,.int .i64 y.tail,.int .i64 y.lost,.int .i64 y.xW] 71)=w2 at R3 B3 HS3 hz2 x0 x1 x2 x3 x4 x5 x6 x7 ⊢;obtain ⟨SB,hSB⟩:∃SB,w1.heap.size=SB:=⟨_,rfl⟩;rw [hSB] at HS3 x0 x1 x2 x3 x4 x5 x6 x7 hz2 z1 zR1 ⊢;obtain ⟨RB,hRB⟩:∃RB,w.heap.size=RB:=⟨_,rfl⟩;have q1:w.heap.size<=RB/\RB<SB:=by omega
 rw [hRB] at R3 ⊢;have HRB:=aa hRB;clear hSB hRB;have zS2:SB+1<=w2.heap.size:=by omega
 have zR2:=R3.out.lt;clear hz2;have none_:Hid (∀w4,Below w.heap.size w w4->Box w4 RB 31 #[.int .i64 0,.int .i64 0,.int .i64 0,.slice none 0 0,.int .i64 0,.int .i64 0,.int .i64 0,.int .i64 0,.int .i64 0,.slice none 0 0,.int .i64 0,.bool false,.bool false]->mP ms id=((arrZ,[]),false)->nf w (fa w4 RB [(0,.int .i64 0),(1,.int .i64 0),(2,.int .i64 0),(3,.slice none 0 0),(4,.int .i64 0),(5,.int .i64 0),(6,.int .i64 0),(7,.int .i64 0),(8,.int .i64 0),(9,.slice none 0 0),(10,.int .i64 0),(11,.bool false),(12,.bool false)]) (.returned (.tuple #[.agg #[.int .i64 0,.int .i64 0,.int .i64 0,.slice none 0 0,.int .i64 0,.int .i64 0,.int .i64 0,.int .i64 0,.int .i64 0,.slice none 0 0,.int .i64 0,.bool false,.bool false],.bool false])) (mP ms id).1 (mP ms id).2 []):=fun w4 hb hr hq=>by
  rw [hq];exact rG (y:=arrZ) (ns:=[]) (ds:=[]) (vm:=none) (vd:=none) (cvm:=0) (cvd:=0) (lo:=RB+1) hb hr rfl (cP _) (cP _) (by simp) (by simp) (by simp) (by omega) (by omega)
 simp only [fa] at none_
 by_cases hfb:fb=true
 . subst hfb
   by_cases hln:(ms.length:Int)=y.n
   . have hdl:decide ((ms.length:Int)=y.n)=true:=decide_eq_true hln
     have HLN:=aa hln;have hne:((ms.length:Int) !=y.n)=false:=by simp [hln]
     clear hln;have h2:=h0.below B3.out;go_wp2_with fail
     refine (oP _ E F y _ _ _ ms h2 hw).mono ?_
     rintro e w3 ⟨bm,bd,cm,cd,rfl,⟨fm,fd,mm,md,hr,rm,rd⟩,b3⟩;dsimp only at mm rm
     have R4:=R3.out.below b3 zR2;have B4:=Below.andThen B3.out b3;have z3:=b3.size;have nb:=af w3 (.cells #[.int .i64 (bT y).id,.int .i64 (bT y).n,.int .i64 (bT y).s,.slice bm ms.length cm,.int .i64 (bT y).lost,.int .i64 (bT y).xW,.int .i64 (bT y).seq,.int .i64 (bT y).tail,.int .i64 (bT y).gen,.slice bd 0 cd,.int .i64 (bT y).xY,.bool (bT y).down,.bool (bT y).xX] 31);have Y:=Box.new w3 31 #[.int .i64 (bT y).id,.int .i64 (bT y).n,.int .i64 (bT y).s,.slice bm ms.length cm,.int .i64 (bT y).lost,.int .i64 (bT y).xW,.int .i64 (bT y).seq,.int .i64 (bT y).tail,.int .i64 (bT y).gen,.slice bd 0 cd,.int .i64 (bT y).xY,.bool (bT y).down,.bool (bT y).xX];have zY:=Y.lt;have A5:Hid (aK (w3.alloc (.cells #[.int .i64 (bT y).id,.int .i64 (bT y).n,.int .i64 (bT y).s,.slice bm ms.length cm,.int .i64 (bT y).lost,.int .i64 (bT y).xW,.int .i64 (bT y).seq,.int .i64 (bT y).tail,.int .i64 (bT y).gen,.slice bd 0 cd,.int .i64 (bT y).xY,.bool (bT y).down,.bool (bT y).xX] 31)) w3.heap.size (bT y) ms [] fm fd):=⟨bm,bd,cm,cd,Y,mm.below nb,md.below nb,hr,fun hm=>by have:=(rm _ hm).2;omega,fun hm=>by have:=(rd _ hm).2;omega⟩;have R5:=aa (R4.below nb (by omega));have B5:=aa (Below.andThen B4 nb);have rm2:∀b∈fm,w2.heap.size<=b:=fun b hb=>(rm b hb).1;have rd2:∀b∈fd,w2.heap.size<=b:=fun b hb=>(rd b hb).1;clear x0 x1 x2 x3 x4 x5 x6 x7 R3 B3 HS3 mm md rm rd b3 R4 B4 nb Y h2;unfold bH;go_upto_region 5 with fail
     generalize w3.alloc (.cells #[.int .i64 (bT y).id,.int .i64 (bT y).n,.int .i64 (bT y).s,.slice bm ms.length cm,.int .i64 (bT y).lost,.int .i64 (bT y).xW,.int .i64 (bT y).seq,.int .i64 (bT y).tail,.int .i64 (bT y).gen,.slice bd 0 cd,.int .i64 (bT y).xY,.bool (bT y).down,.bool (bT y).xX] 31)=w5 at A5 R5 B5 zY ⊢;obtain ⟨AB,hAB⟩:∃AB,w3.heap.size=AB:=⟨_,rfl⟩;rw [hAB] at A5 zY z3 ⊢;have q2:RB<AB/\w2.heap.size<=AB:=by omega
     clear hAB z3;go_wp2
     go_loopw [34] (fun i wr=>∃j:Nat,j<=ms.length/\i=.int .i64 j/\aK wr AB (jx ms id (bT y) j) ms [] fm fd/\But AB (AB+1) w5 wr) (fun i _=>ms.length-(intOf i).toNat)
     case atStart=>exact ⟨0,Nat.zero_le _,rfl,A5.out,But.refl _ _ _⟩
     obtain ⟨j,hj,rfl,hAt,hbt⟩:=hrel;have hb:=Below.andBut B5.out hbt (by omega);have zr:=hbt.size;by_cases hjn:j<ms.length
     . rcases eb rfl h0 with h0'|⟨b,off,rfl,hbl,hcs⟩
       . omega
       have hdj:ms[j]?=some (ms[j]'(by omega)):=List.getElem?_eq_getElem (by omega);have UP:=aa (fun h=>vG (id:=id) (x:=bT y) hdj h);have DN:=aa (fun h=>vH (id:=id) (x:=bT y) hdj h);generalize ms[j]'(by omega)=d at hdj UP DN;have hin:=Nat.le_trans (ei hdj) hw;obtain ⟨u0,u1,u2,u3,hv0,hv1,hv2,hv3,hrv⟩:=hcs j d hdj;obtain ⟨a0,c0,a1,c1,a3,c3,ss,cs,f,bs,rfl,rfl,rfl,rfl,rfl,r0,r1,r3⟩:=fV hrv;have pv0:=(hb.cell (p:=⟨b,off+j*4,none⟩) hbl).trans hv0;have pv1:=(hb.cell (p:=⟨b,off+j*4+1,none⟩) hbl).trans hv1;have pv2:=(hb.cell (p:=⟨b,off+j*4+2,none⟩) hbl).trans hv2;have pv3:=(hb.cell (p:=⟨b,off+j*4+3,none⟩) hbl).trans hv3;have nb:=af wr (.cells #[.slice a0 ss.length c0,.slice a1 cs.length c1,.bool f,.slice a3 bs.length c3] 55);have hbm:=Below.andThen hb nb;have R0':=aa (r0.below hbm);have R1':=aa (r1.below hbm);have R3':=aa (r3.below hbm);have AM:=aa (hAt.below nb);have BM:=aa (hbt.trans (But.of_below nb));have k1:(0:Int)<=(j:Int):=by omega
       have k2:(j:Int)<(ms.length:Int):=by omega
       clear hcs hdj hv0 hv1 hv2 hv3 hrv r0 r1 r3 nb hbm hAt hbt hb;go_wp2_with fail
       generalize wr.alloc (.cells #[.slice a0 ss.length c0,.slice a1 cs.length c1,.bool f,.slice a3 bs.length c3] 55)=wm at R0' R1' R3' AM BM ⊢;refine (jG _ E _ _ _ _ _ _ _ _ _ ss cs f bs id (j:Int) R0'.out R1'.out R3'.out hin).mono ?_
       rintro e wq ⟨t,rfl,_,bq⟩;have AQ:=aa ((AM.out.below bq).below (af wq (.cells #[.int .i64 t.id,.int .i64 t.gen,.int .i64 t.role,.int .i64 t.n,.int .i64 t.s,.int .i64 t.tail,.int .i64 t.lost,.int .i64 t.xW] 71)));have BQ:=aa ((BM.out.trans (But.of_below bq)).trans (But.of_below (af wq (.cells #[.int .i64 t.id,.int .i64 t.gen,.int .i64 t.role,.int .i64 t.n,.int .i64 t.s,.int .i64 t.tail,.int .i64 t.lost,.int .i64 t.xW] 71))));clear R0' R1' R3' pv0 pv1 pv2 pv3 AM BM bq;generalize dN (ss,cs,f,bs) id (j:Int)=hk at UP DN ⊢;go_upto_region 9 with fail
       generalize wq.alloc (.cells #[.int .i64 t.id,.int .i64 t.gen,.int .i64 t.role,.int .i64 t.n,.int .i64 t.s,.int .i64 t.tail,.int .i64 t.lost,.int .i64 t.xW] 71)=wp at AQ BQ ⊢;cases hk
       . have HX:=aa (DN.out rfl)
         go_wp2_with fail
         refine (qZ wp AB _ ms [] fm fd AQ.out (j:Int)).mono ?_
         rintro e wl ⟨rfl,al,bl⟩;have AL:=aa al;have BL:=aa (BQ.out.trans bl);clear al bl AQ BQ UP DN;go_wp2
         go_roundw
         case rel=>exact ⟨j+1,by omega,by go_num,by rw [HX.out];exact AL.out,BL.out⟩
         case measure=>simp [intOf];omega
       have HX:=aa (UP.out rfl);clear UP DN;go_wp2
       go_roundw
       case rel=>exact ⟨j+1,by omega,by go_num,by rw [HX.out];exact AQ.out,BQ.out⟩
       case measure=>simp [intOf];omega
     have ej:j=ms.length:=by omega
     subst ej;have R6:=R5.out.kept (hbt.block _ R5.out.lt (by omega));have HYES:=aa (fun ha=>xk (ms:=ms) (id:=id) HST.out HLN.out ha);have HNO:=aa (fun ha=>xl (ms:=ms) (id:=id) HST.out ha);generalize jx ms id (bT y) ms.length=X at hAt HYES HNO;obtain ⟨vm,vd,cvm,cvd,Yf,mf,df,hrf,r1f,r2f⟩:=hAt;have p0:=mf.rd;have p1:=df.rd;have Y0:=Yf;unfold bH at Y0;simp only [List.length_nil] at Y0 p1 df
     obtain ⟨t0,t1,t2,t3,t4,t5,t6,t7,t8,t9,t10,t11,t12⟩:=Y0.cells13;clear A5 R5;go_wp2_with fail
     refine (dx _ 119 55 93 X _ _ _ _ _ _ ms [] p0 p1 (by unfold bh;have:aX []=0:=rfl;omega)).mono ?_
     rintro e w7 ⟨rfl,b7⟩;have R7:=R6.below b7 R6.lt;have B7:=Below.andThen hb b7;have m7:=mf.below b7;have d7:=df.below b7;have Y7:=Y0.below b7 Y0.lt;clear t0 t1 t2 t3 t4 t5 t6 t7 t8 t9 t10 t11 t12 R6 hb mf df Yf Y0 b7 p0 p1;cases ha:bf X ms []
     . have hq:=HNO.out ha
       have HN:=aa (none_.out w7 B7 R7 hq);obtain ⟨r0,r1,r2,r3,r4,r5,r6,r7,r8,r9,r10,r11,r12⟩:=R7.cells13;have fzR:=R7.frozen;clear none_;go_wp2
       refine bodyPost_ret (v:=.tuple #[.agg #[.int .i64 0,.int .i64 0,.int .i64 0,.slice none 0 0,.int .i64 0,.int .i64 0,.int .i64 0,.int .i64 0,.int .i64 0,.slice none 0 0,.int .i64 0,.bool false,.bool false],.bool false]) (by simp [results,Tryz.results15,go_sem,r0,r1,r2,r3,r4,r5,r6,r7,r8,r9,r10,r11,r12]) rfl ?_
       exact HN.out
     have hq:=HYES.out ha;have HO:=aa (rG (y:=X) (ns:=ms) (ds:=[]) (vm:=vm) (vd:=vd) (cvm:=cvm) (cvd:=cvd) (code:=true) (e:=.returned (.tuple #[.agg (bH X _ _),.bool true])) B7 R7 rfl m7 d7 hrf rm2 rd2 (by omega) (by omega));unfold bH at HO;simp only [fa,List.length_nil] at HO
     obtain ⟨r0,r1,r2,r3,r4,r5,r6,r7,r8,r9,r10,r11,r12⟩:=R7.cells13;have fzR:=R7.frozen;obtain ⟨t0,t1,t2,t3,t4,t5,t6,t7,t8,t9,t10,t11,t12⟩:=Y7.cells13;have HQ:=aa hq;clear R7 B7 m7 d7 Y7 none_ HYES HNO hq;go_wp2
     refine bodyPost_ret (v:=.tuple #[.agg #[.int .i64 X.id,.int .i64 X.n,.int .i64 X.s,.slice vm ms.length cvm,.int .i64 X.lost,.int .i64 X.xW,.int .i64 X.seq,.int .i64 X.tail,.int .i64 X.gen,.slice vd 0 cvd,.int .i64 X.xY,.bool X.down,.bool X.xX],.bool true]) (by simp [results,Tryz.results15,go_sem,r0,r1,r2,r3,r4,r5,r6,r7,r8,r9,r10,r11,r12]) rfl ?_
     rw [HQ.out];exact HO.out
   have hne:((ms.length:Int) !=y.n)=true:=by simp [hln]
   have HN:=aa (none_.out w2 B3.out R3.out (tT HST.out (fun h=>hln h.2)));obtain ⟨r0,r1,r2,r3,r4,r5,r6,r7,r8,r9,r10,r11,r12⟩:=R3.out.cells13;have fzR:=R3.out.frozen;clear none_;go_wp2
   refine bodyPost_ret (v:=.tuple #[.agg #[.int .i64 0,.int .i64 0,.int .i64 0,.slice none 0 0,.int .i64 0,.int .i64 0,.int .i64 0,.int .i64 0,.int .i64 0,.slice none 0 0,.int .i64 0,.bool false,.bool false],.bool false]) (by simp [results,Tryz.results15,go_sem,r0,r1,r2,r3,r4,r5,r6,r7,r8,r9,r10,r11,r12]) rfl ?_
   exact HN.out
 have hfb:fb=false:=by simpa using hfb
 subst hfb;have HN:=aa (none_.out w2 B3.out R3.out (tT HST.out (fun h=>by cases h.1)));obtain ⟨r0,r1,r2,r3,r4,r5,r6,r7,r8,r9,r10,r11,r12⟩:=R3.out.cells13;have fzR:=R3.out.frozen;clear none_;go_wp2
 refine bodyPost_ret (v:=.tuple #[.agg #[.int .i64 0,.int .i64 0,.int .i64 0,.slice none 0 0,.int .i64 0,.int .i64 0,.int .i64 0,.int .i64 0,.int .i64 0,.slice none 0 0,.int .i64 0,.bool false,.bool false],.bool false]) (by simp [results,Tryz.results15,go_sem,r0,r1,r2,r3,r4,r5,r6,r7,r8,r9,r10,r11,r12]) rfl ?_
 exact HN.out
theorem lY (w:World) (E F G:TypeId) (x:aq) (am ad:Option Addr) (nm cm nd cd:Nat) (ms:List ai) (ds:List (Int×List Int)) (b:Int) (h0:(bI E F).Rd w [.slice am nm cm] ms) (h1:(aW G).Rd w [.slice ad nd cd] ds) (hw:bh ms ds<=2097152):
 Calls Tryz.prog 51 #[.agg #[.int .i64 x.id,.int .i64 x.n,.int .i64 x.s,.slice am nm cm,.int .i64 x.lost,.int .i64 x.xW,.int .i64 x.seq,.int .i64 x.tail,.int .i64 x.gen,.slice ad nd cd,.int .i64 x.xY,.bool x.down,.bool x.xX],.int .i64 b] w fun e w'=>e=.returned (.tuple #[.int .i64 (qF x ms ds b),.int .i64 (iV x ms ds b)])/\Below w.heap.size w w':=by
 have hA:=af w (.cells #[.int .i64 x.id,.int .i64 x.n,.int .i64 x.s,.slice am nm cm,.int .i64 x.lost,.int .i64 x.xW,.int .i64 x.seq,.int .i64 x.tail,.int .i64 x.gen,.slice ad nd cd,.int .i64 x.xY,.bool x.down,.bool x.xX] 31);have X:=Box.new w 31 #[.int .i64 x.id,.int .i64 x.n,.int .i64 x.s,.slice am nm cm,.int .i64 x.lost,.int .i64 x.xW,.int .i64 x.seq,.int .i64 x.tail,.int .i64 x.gen,.slice ad nd cd,.int .i64 x.xY,.bool x.down,.bool x.xX];have zX:=X.lt;obtain ⟨k0,k1,k2,k3,k4,k5,k6,k7,k8,k9,k10,k11,k12⟩:=X.cells13;have r0:=h0.below hA;have r1:=h1.below hA;have HC:Hid (iV x ms ds b=if hY x ms ds b=0 then (if ok8 x ms ds (aO x.n x.s b)=true then 0 else 5) else hY x ms ds b):=rfl;have HV:Hid (qF x ms ds b=if hY x ms ds b=0/\ok8 x ms ds (aO x.n x.s b)=true then (fO x ms ds (aO x.n x.s b)).getD (ch x.n x.s b).toNat 0 else 0):=rfl;go_enter Tryz.func51,Tryz.ntmps51
 go_wp2_with fail
 generalize w.alloc (.cells #[.int .i64 x.id,.int .i64 x.n,.int .i64 x.s,.slice am nm cm,.int .i64 x.lost,.int .i64 x.xW,.int .i64 x.seq,.int .i64 x.tail,.int .i64 x.gen,.slice ad nd cd,.int .i64 x.xY,.bool x.down,.bool x.xX] 31)=W at hA X zX r0 r1 k0 k1 k2 k3 k4 k5 k6 k7 k8 k9 k10 k11 k12 ⊢;refine (lX _ x.n x.s b).mono ?_
 rintro e wa ⟨rfl,ba⟩;have Xa:=X.below ba zX;have zXa:=Xa.lt;have q0:=r0.below ba;have q1:=r1.below ba;have HBa:=aa (Below.andThen hA ba);clear k0 k1 k2 k3 k4 k5 k6 k7 k8 k9 k10 k11 k12 X r0 r1 ba hA;obtain ⟨k0,k1,k2,k3,k4,k5,k6,k7,k8,k9,k10,k11,k12⟩:=Xa.cells13;go_wp2_with fail
 refine (oG _ E F G x _ _ _ _ _ _ ms ds (aO x.n x.s b) q0 q1 hw).mono ?_
 rintro e w1 ⟨rfl,b1⟩;rw [uH b];have X1:=Xa.below b1 zXa;have zX1:=X1.lt;have p0:=q0.below b1;have p1:=q1.below b1;have HB1:=aa (Below.andThen HBa.out b1);clear k0 k1 k2 k3 k4 k5 k6 k7 k8 k9 k10 k11 k12 Xa q0 q1 b1 HBa;obtain ⟨k0,k1,k2,k3,k4,k5,k6,k7,k8,k9,k10,k11,k12⟩:=X1.cells13;by_cases hc:hY x ms ds b=0
 . skip
   have HX0:=aa (xA hc);have HC2:Hid (iV x ms ds b=if ok8 x ms ds (aO x.n x.s b)=true then 0 else 5):=by unfold Hid;rw [HC.out,if_pos hc]
   have HV2:Hid (qF x ms ds b=if ok8 x ms ds (aO x.n x.s b)=true then (fO x ms ds (aO x.n x.s b)).getD (ch x.n x.s b).toNat 0 else 0):=by
    unfold Hid;rw [HV.out];by_cases hk:ok8 x ms ds (aO x.n x.s b)=true
    . rw [if_pos ⟨hc,hk⟩,if_pos hk]
    rw [if_neg (fun h=>hk h.2),if_neg hk]
   obtain ⟨s1,s2,i1,i2⟩:=ki (kj HX0.out.2.1) HX0.out.2.2.2;have ht:inB (aO x.n x.s b) 0 (x.s-1)=true:=aG.2 ⟨s1,s2⟩;have hg:=kj HX0.out.2.1;have HDL:=aa (fun hk=>nJ (s:=aO x.n x.s b) HX0.out.2.1 hk);rw [hc];clear hc HC HV;generalize hS:aO x.n x.s b=s at s1 s2 HC2 HV2 HDL ht ⊢;clear hS;go_wp2_with fail
   refine (sH _ E F G x _ _ _ _ _ _ ms ds s p0 p1 hw HX0.out.2.1 ht).mono ?_
   rintro e w4 ⟨a4,l4,c4,rfl,o4,b4⟩;have BX:=Below.andThen HB1.out b4;have X4:=X1.below b4 zX1;have z4:=b4.size;clear k0 k1 k2 k3 k4 k5 k6 k7 k8 k9 k10 k11 k12 X1 p0 p1 HB1 b4 hg ht HX0;cases hok:ok8 x ms ds s
   . have HR:Hid (iV x ms ds b=5/\qF x ms ds b=0):=by unfold Hid;rw [HC2.out,HV2.out,hok];exact ⟨rfl,rfl⟩
     have HBX:=aa BX;clear hok BX o4 HDL;go_wp2
     go_ret2
     rw [HR.out.1,HR.out.2];exact ⟨rfl,HBX.out⟩
   have HR:Hid (iV x ms ds b=0/\qF x ms ds b=(fO x ms ds s).getD (ch x.n x.s b).toNat 0):=by unfold Hid;rw [HC2.out,HV2.out,hok];exact ⟨rfl,rfl⟩
   have hlen:=HDL.out hok;clear hok HDL HC2 HV2;obtain ⟨k0,k1,k2,k3,k4,k5,k6,k7,k8,k9,k10,k11,k12⟩:=X4.cells13;go_wp2_with fail
   refine (mV _ x.n x.s b).mono ?_
   rintro e w5 ⟨rfl,b5⟩;have o5:=o4.rd.below b5;have HBX:=aa (Below.andThen BX b5);clear k0 k1 k2 k3 k4 k5 k6 k7 k8 k9 k10 k11 k12 b5 BX o4 X4;generalize ch x.n x.s b=ix at i1 i2 HR ⊢;obtain ⟨i,rfl⟩:=Int.eq_ofNat_of_zero_le i1;rw [Int.toNat_natCast] at HR;generalize fO x ms ds s=zs at o5 hlen HR ⊢;obtain ⟨hr5,hl5,_,_⟩:=aR o5;rcases hr5.cases with h0'|⟨bb,off,rfl,hbl,hcz⟩
   . omega
   have hci:=hcz i (by omega);have i3:(i:Int)<(l4:Int):=by omega
   generalize zs.getD i 0=v at hci HR;clear hcz hr5 o5;go_wp2
   go_ret2
   rw [HR.out.1,HR.out.2];exact ⟨rfl,HBX.out⟩
 have HR:Hid (iV x ms ds b=hY x ms ds b/\qF x ms ds b=0):=by unfold Hid;rw [HC.out,HV.out,if_neg hc,if_neg (fun h=>hc h.1)];exact ⟨rfl,rfl⟩
 skip
 have e0:(hY x ms ds b !=0)=true:=by simpa using hc
 clear hc;generalize hY x ms ds b=q at e0 HR ⊢;go_wp2
 go_ret2
 rw [HR.out.1,HR.out.2];exact ⟨rfl,HB1.out⟩
end Go.Proofs.YtgjomldcnjjpaaaGreat

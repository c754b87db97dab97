/-
 The walks of what a disk reads in each of its states, and of the word that it holds of a stripe. Condition: the disk weighs at most 2097152.
-/
import Derived.Test.YtfimpohbpccjaaaRowWordsSq15
import Derived.Test.YtfimpohbpccjaaaRowWordsSq16
import Derived.Test.YtfimpohbpccjaaaRowWordsSq3
import Derived.Test.YtfimpohbpccjaaaRowWordsSq11

set_option maxRecDepth 100000
set_option maxHeartbeats 8000000
set_option linter.unusedSimpArgs false

namespace Go.Proofs.Ytfimpohbpccjaaa
open Go.RowKit

theorem eh (w:World) (E:TypeId) (a0 a1 a3:Option Addr) (n0 c0 n1 c1 n3 c3:Nat) (ss:List (List Int)) (cs:List (Int×List Int)) (f:Bool) (bs:List Int) (n:Int) (h0:aM.Rd w [.slice a0 n0 c0] ss) (h1:(aP E).Rd w [.slice a1 n1 c1] cs) (h3:aA.Rd w [.slice a3 n3 c3] bs) (hw:aB (ss,cs,f,bs)<=2097152):
 Calls Try.prog 120 #[.agg #[.slice a0 n0 c0,.slice a1 n1 c1,.bool f,.slice a3 n3 c3],.int .i64 n] w fun e w'=>∃a' l c',e=.returned (.tuple #[.slice a' l c',.bool (aI ss cs f bs n)])/\aA.Own w' w.heap.size w'.heap.size [.slice a' l c'] (aN ss cs f bs n)/\Below w.heap.size w w':=by
 have hA:=ai w (.cells #[.slice a0 n0 c0,.slice a1 n1 c1,.bool f,.slice a3 n3 c3] 86);have X:=Box.new w 86 #[.slice a0 n0 c0,.slice a1 n1 c1,.bool f,.slice a3 n3 c3];have k0:=X.cell 0;have k1:=X.cell 1;have k2:=X.cell 2;have k3:=X.cell 3;have r0:=h0.below hA;have r1:=h1.below hA;have r3:=h3.below hA;have zA:=hA.size;go_enter Try.func120,Try.ntmps120
 go_wp2_with fail
 refine (dK _ E _ _ _ _ _ _ _ _ _ ss cs f bs n r0 r1 r3 hw).mono ?_
 rintro e w1 ⟨a',l,c',rfl,o1,b1⟩;have HO:=ab (o1.widen (lo':=w.heap.size) zA (Nat.le_refl _));have HB:=ab (Below.andThen hA b1);clear o1 b1 k0 k1 k2 k3 r0 r1 r3 X;go_wp2
 refine bodyPost_ret (v:=.tuple #[.slice a' l c',.bool (aI ss cs f bs n)]) (by simp [results,Try.results120,go_sem]) rfl ?_
 exact ⟨_,_,_,rfl,HO.out,HB.out⟩
theorem fj (w:World) (n:Int):Calls Try.prog 127 #[.agg #[],.int .i64 n] w fun e w'=>∃a' c',e=.returned (.tuple #[.slice a' 0 c',.bool false])/\Below w.heap.size w w':=by
 have hA:=(ai w (.cells #[] 92)).alloc (by simp) (.cells #[] 3);go_enter Try.func127,Try.ntmps127
 go_wp2
 refine bodyPost_ret (v:=.tuple #[.slice (some ⟨w.heap.size+1,0,none⟩) 0 0,.bool false]) (by simp [results,Try.results127,go_sem]) rfl ?_
 exact ⟨_,_,rfl,hA⟩
theorem hC {x:aF} {ms:List aD} {j:Nat} {s:Int} {d:aD} (h:ms[j]?=some d):cc x ms (j:Int) s=(!d.2.2.1&&(!decide ((j:Int)=x.lost)||decide (s<x.il))):=by
 have hj:=(List.getElem?_eq_some_iff.1 h).1;unfold cc;rw [show inB (j:Int) 0 ((ms.length:Int)-1)=true from bQ.2 (by omega),Int.toNat_natCast,List.getD_eq_getElem?_getD,h];rfl
theorem hF {ms:List aD} {j:Nat} {d:aD} (h:ms[j]?=some d):dH ms (j:Int)=d:=by unfold dH;rw [Int.toNat_natCast,List.getD_eq_getElem?_getD,h];rfl
theorem ig {x:aF} {ms:List aD} {j:Nat} {s:Int} {ss:List (List Int)} {cs:List (Int×List Int)} {f:Bool} {bs:List Int} (h:ms[j]?=some (ss,cs,f,bs)):bl x ms (j:Int) s=(cc x ms (j:Int) s&&(aI ss cs f bs (aR s)&&decide ((aN ss cs f bs (aR s)).length=1)))/\(bl x ms (j:Int) s=true->bo x ms (j:Int) s=(aN ss cs f bs (aR s)).getD 0 0):=by
 have hm:=hF h;have hsec:fO ms (j:Int) s=aN ss cs f bs (aR s):=by unfold fO;rw [hm]
 refine ⟨by unfold bl;rw [hsec,hm],fun h=>by rw [eY h,hsec]⟩
theorem er (w:World) (x:aF) (ms:List aD) (j:Nat) (s:Int) (hd:bl x ms (j:Int) s=false):
 Calls Try.prog 41 #[.iface 92 (.agg #[]),.int .i64 s] w fun e w'=>e=.returned (.tuple #[.int .i64 (bo x ms (j:Int) s),.bool (bl x ms (j:Int) s)])/\Below w.heap.size w w':=by
 have na : ∀ w, Sem.run Try.prog (nilAhead (245 + 1) 92 (.agg #[]) "loop.example/g00398/impl.read") w = .ok (some false) w := fun w => by kernel_rfl
 have HD:=ab hd;clear hd;go_enter Try.func41,Try.ntmps41
 go_wp2_with fail
 refine wp_region_held_drew (S:=fun w'=>Below w.heap.size w w') (by kernel_rfl) ?_ (fun ik=>?_)
 . exact (Below.refl _ _).drew
 refine ah (i:=0) (v:=?_) rfl (by kernel_rfl) (by kernel_rfl) (by kernel_rfl) (fun _ _ _ h=>h) (by kernel_rfl) ?_ ik ?_
 rotate_left 1
 . (intro w hSw;(try dsimp only at hSw);go_split_ands;go_simp;first|done|with_reducible rfl)
 simp only [Act.put,List.setIfInBounds_toArray,List.set_cons_zero,List.set_cons_succ]
 refine ah (i:=1) (v:=?_) rfl (by kernel_rfl) (by kernel_rfl) (by kernel_rfl) (fun _ _ _ h=>h) (by kernel_rfl) ?_ ik ?_
 rotate_left 1
 . (intro w hSw;(try dsimp only at hSw);go_split_ands;go_simp;first|done|with_reducible rfl)
 simp only [Act.put,List.setIfInBounds_toArray,List.set_cons_zero,List.set_cons_succ]
 refine ah (i:=3) (v:=?_) rfl (by kernel_rfl) (by kernel_rfl) (by kernel_rfl) (fun _ _ _ h=>h) (by kernel_rfl) ?_ ik ?_
 rotate_left 1
 . (intro w hSw;(try dsimp only at hSw);go_split_ands;go_simp;first|done|with_reducible rfl)
 simp only [Act.put,List.setIfInBounds_toArray,List.set_cons_zero,List.set_cons_succ]
 refine ah (i:=4) (v:=?_) rfl (by kernel_rfl) (by kernel_rfl) (by kernel_rfl) (fun _ _ _ h=>h) (by kernel_rfl) ?_ ik ?_
 rotate_left 1
 . (intro w hSw;(try dsimp only at hSw);go_split_ands;go_simp;first|done|with_reducible rfl)
 simp only [Act.put,List.setIfInBounds_toArray,List.set_cons_zero,List.set_cons_succ]
 refine ah (i:=5) (v:=?_) rfl (by kernel_rfl) (by kernel_rfl) (by kernel_rfl) (fun _ _ _ h=>h) (by kernel_rfl) ?_ ik ?_
 rotate_left 1
 . (intro w hSw;(try dsimp only at hSw);go_split_ands;go_simp;first|done|with_reducible rfl)
 simp only [Act.put,List.setIfInBounds_toArray,List.set_cons_zero,List.set_cons_succ]
 refine ag (i:=2) (by kernel_rfl) rfl (by kernel_rfl) (fun K hK=>?_)
 go_simp
 refine (bK _ _).mono ?_
 rintro e w1 ⟨rfl,h1⟩;subst h1;go_wp2_with fail
 clear ik;refine hK.out _ _ ?_ (fun ik=>?_)
 . exact (Below.refl _ _).drew
 clear hK K;refine ag (i:=6) (by kernel_rfl) rfl (by kernel_rfl) (fun K hK=>?_)
 go_simp
 refine (fj _ _).mono ?_
 rintro e w2 ⟨a',c',rfl,b2⟩;have b2':Below w.heap.size w w2:=(Below.refl w.heap.size w).drew.trans b2;clear b2;go_wp2_with fail
 clear ik;refine hK.out _ _ ?_ (fun ik=>?_)
 . exact b2'
 clear hK K;refine ah (i:=7) (v:=?_) rfl (by kernel_rfl) (by kernel_rfl) (by kernel_rfl) (fun _ _ _ h=>h) (by kernel_rfl) ?_ ik ?_
 rotate_left 1
 . (intro w hSw;(try dsimp only at hSw);go_split_ands;go_simp;first|done|with_reducible rfl)
 simp only [Act.put,List.setIfInBounds_toArray,List.set_cons_zero,List.set_cons_succ]
 refine ah (i:=8) (v:=?_) rfl (by kernel_rfl) (by kernel_rfl) (by kernel_rfl) (fun _ _ _ h=>h) (by kernel_rfl) ?_ ik ?_
 rotate_left 1
 . (intro w hSw;(try dsimp only at hSw);go_split_ands;go_simp;first|done|with_reducible rfl)
 simp only [Act.put,List.setIfInBounds_toArray,List.set_cons_zero,List.set_cons_succ]
 refine ah (i:=9) (v:=?_) rfl (by kernel_rfl) (by kernel_rfl) (by kernel_rfl) (fun _ _ _ h=>h) (by kernel_rfl) ?_ ik ?_
 rotate_left 1
 . (intro w hSw;(try dsimp only at hSw);go_split_ands;go_simp;first|done|with_reducible rfl)
 simp only [Act.put,List.setIfInBounds_toArray,List.set_cons_zero,List.set_cons_succ]
 refine ah (i:=10) (v:=?_) rfl (by kernel_rfl) (by kernel_rfl) (by kernel_rfl) (fun _ _ _ h=>h) (by kernel_rfl) ?_ ik ?_
 rotate_left 1
 . (intro w hSw;(try dsimp only at hSw);go_split_ands;go_simp;first|done|with_reducible rfl)
 simp only [Act.put,List.setIfInBounds_toArray,List.set_cons_zero,List.set_cons_succ]
 refine ah (i:=11) (v:=?_) rfl (by kernel_rfl) (by kernel_rfl) (by kernel_rfl) (fun _ _ _ h=>h) (by kernel_rfl) ?_ ik ?_
 rotate_left 1
 . (intro w hSw;(try dsimp only at hSw);go_split_ands;go_simp;first|done|with_reducible rfl)
 simp only [Act.put,List.setIfInBounds_toArray,List.set_cons_zero,List.set_cons_succ]
 refine wpAnyH_done (by kernel_rfl) ?_ _
 clear ik;have HB:=ab b2';go_wp2
 refine bodyPost_ret (v:=.tuple #[.int .i64 0,.bool false]) (by simp [results,Try.results41,go_sem]) rfl ?_
 exact ⟨bL HD.out,HB.out⟩
theorem fk (w:World) (E:TypeId) (x:aF) (ms:List aD) (j:Nat) (s:Int) (a0 a1 a3:Option Addr) (c0 c1 c3:Nat) (ss:List (List Int)) (cs:List (Int×List Int)) (bs:List Int) (h0:aM.Rd w [.slice a0 ss.length c0] ss) (h1:(aP E).Rd w [.slice a1 cs.length c1] cs) (h3:aA.Rd w [.slice a3 bs.length c3] bs) (hw:aB (ss,cs,false,bs)<=2097152) (hd:bl x ms (j:Int) s=(decide (s<x.il)&&(aI ss cs false bs (aR s)&&decide ((aN ss cs false bs (aR s)).length=1)))) (hv:bl x ms (j:Int) s=true->bo x ms (j:Int) s=(aN ss cs false bs (aR s)).getD 0 0):
 Calls Try.prog 41 #[.iface 90 (.agg #[.slice a0 ss.length c0,.slice a1 cs.length c1,.bool false,.slice a3 bs.length c3,.int .i64 x.il]),.int .i64 s] w fun e w'=>e=.returned (.tuple #[.int .i64 (bo x ms (j:Int) s),.bool (bl x ms (j:Int) s)])/\Below w.heap.size w w':=by
 have na : ∀ w, Sem.run Try.prog (nilAhead (245 + 1) 90 (.agg #[.slice a0 ss.length c0, .slice a1 cs.length c1, .bool false, .slice a3 bs.length c3, .int .i64 x.il]) "loop.example/g00398/impl.read") w = .ok (some false) w := fun w => by kernel_rfl
 have HD:=ab hd;have HV:=ab hv;clear hd hv;go_enter Try.func41,Try.ntmps41
 go_wp2_with fail
 refine wp_region_held_drew (S:=fun w'=>Below w.heap.size w w') (by kernel_rfl) ?_ (fun ik=>?_)
 . exact (Below.refl _ _).drew
 refine ah (i:=0) (v:=?_) rfl (by kernel_rfl) (by kernel_rfl) (by kernel_rfl) (fun _ _ _ h=>h) (by kernel_rfl) ?_ ik ?_
 rotate_left 1
 . (intro w hSw;(try dsimp only at hSw);go_split_ands;go_simp;first|done|with_reducible rfl)
 simp only [Act.put,List.setIfInBounds_toArray,List.set_cons_zero,List.set_cons_succ]
 refine ah (i:=1) (v:=?_) rfl (by kernel_rfl) (by kernel_rfl) (by kernel_rfl) (fun _ _ _ h=>h) (by kernel_rfl) ?_ ik ?_
 rotate_left 1
 . (intro w hSw;(try dsimp only at hSw);go_split_ands;go_simp;first|done|with_reducible rfl)
 simp only [Act.put,List.setIfInBounds_toArray,List.set_cons_zero,List.set_cons_succ]
 refine ah (i:=3) (v:=?_) rfl (by kernel_rfl) (by kernel_rfl) (by kernel_rfl) (fun _ _ _ h=>h) (by kernel_rfl) ?_ ik ?_
 rotate_left 1
 . (intro w hSw;(try dsimp only at hSw);go_split_ands;go_simp;first|done|with_reducible rfl)
 simp only [Act.put,List.setIfInBounds_toArray,List.set_cons_zero,List.set_cons_succ]
 refine ah (i:=4) (v:=?_) rfl (by kernel_rfl) (by kernel_rfl) (by kernel_rfl) (fun _ _ _ h=>h) (by kernel_rfl) ?_ ik ?_
 rotate_left 1
 . (intro w hSw;(try dsimp only at hSw);go_split_ands;go_simp;first|done|with_reducible rfl)
 simp only [Act.put,List.setIfInBounds_toArray,List.set_cons_zero,List.set_cons_succ]
 refine ah (i:=5) (v:=?_) rfl (by kernel_rfl) (by kernel_rfl) (by kernel_rfl) (fun _ _ _ h=>h) (by kernel_rfl) ?_ ik ?_
 rotate_left 1
 . (intro w hSw;(try dsimp only at hSw);go_split_ands;go_simp;first|done|with_reducible rfl)
 simp only [Act.put,List.setIfInBounds_toArray,List.set_cons_zero,List.set_cons_succ]
 refine ag (i:=2) (by kernel_rfl) rfl (by kernel_rfl) (fun K hK=>?_)
 go_simp
 refine (bK _ _).mono ?_
 rintro e w1 ⟨rfl,h1⟩;subst h1;go_wp2_with fail
 clear ik;refine hK.out _ _ ?_ (fun ik=>?_)
 . exact (Below.refl _ _).drew
 clear hK K;refine ag (i:=6) (by kernel_rfl) rfl (by kernel_rfl) (fun K hK=>?_)
 go_simp
 refine (eh _ E _ _ _ _ _ _ _ _ _ ss cs false bs _ h0.drew h1.drew h3.drew hw).mono ?_
 rintro e w2 ⟨a',l,c',rfl,o2,b2⟩;have b2':Below w.heap.size w w2:=(Below.refl w.heap.size w).drew.trans b2;clear b2;go_wp2_with fail
 clear ik;refine hK.out _ _ ?_ (fun ik=>?_)
 . exact b2'
 clear hK K;refine ah (i:=7) (v:=?_) rfl (by kernel_rfl) (by kernel_rfl) (by kernel_rfl) (fun _ _ _ h=>h) (by kernel_rfl) ?_ ik ?_
 rotate_left 1
 . (intro w hSw;(try dsimp only at hSw);go_split_ands;go_simp;first|done|with_reducible rfl)
 simp only [Act.put,List.setIfInBounds_toArray,List.set_cons_zero,List.set_cons_succ]
 refine ah (i:=8) (v:=?_) rfl (by kernel_rfl) (by kernel_rfl) (by kernel_rfl) (fun _ _ _ h=>h) (by kernel_rfl) ?_ ik ?_
 rotate_left 1
 . (intro w hSw;(try dsimp only at hSw);go_split_ands;go_simp;first|done|with_reducible rfl)
 simp only [Act.put,List.setIfInBounds_toArray,List.set_cons_zero,List.set_cons_succ]
 refine ah (i:=9) (v:=?_) rfl (by kernel_rfl) (by kernel_rfl) (by kernel_rfl) (fun _ _ _ h=>h) (by kernel_rfl) ?_ ik ?_
 rotate_left 1
 . (intro w hSw;(try dsimp only at hSw);go_split_ands;go_simp;first|done|with_reducible rfl)
 simp only [Act.put,List.setIfInBounds_toArray,List.set_cons_zero,List.set_cons_succ]
 refine ah (i:=10) (v:=?_) rfl (by kernel_rfl) (by kernel_rfl) (by kernel_rfl) (fun _ _ _ h=>h) (by kernel_rfl) ?_ ik ?_
 rotate_left 1
 . (intro w hSw;(try dsimp only at hSw);go_split_ands;go_simp;first|done|with_reducible rfl)
 simp only [Act.put,List.setIfInBounds_toArray,List.set_cons_zero,List.set_cons_succ]
 refine ah (i:=11) (v:=?_) rfl (by kernel_rfl) (by kernel_rfl) (by kernel_rfl) (fun _ _ _ h=>h) (by kernel_rfl) ?_ ik ?_
 rotate_left 1
 . (intro w hSw;(try dsimp only at hSw);go_split_ands;go_simp;first|done|with_reducible rfl)
 simp only [Act.put,List.setIfInBounds_toArray,List.set_cons_zero,List.set_cons_succ]
 refine wpAnyH_done (by kernel_rfl) ?_ _
 clear ik;have HO:=ab o2;clear o2;cases hok:aI ss cs false bs (aR s)
 . have HF:Hid (bl x ms (j:Int) s=false):=by unfold Hid;rw [HD.out,hok];simp
   go_wp2
   refine bodyPost_ret (v:=.tuple #[.int .i64 0,.bool false]) (by simp [results,Try.results41,go_sem]) rfl ?_
   exact ⟨bL HF.out,b2'⟩
 go_wp2_with fail
 refine (fW _ _ _ _ _ _ _ _ _ _ _ _ _).mono ?_
 rintro e w3 ⟨rfl,b3⟩;have B3:=ab (Below.andThen b2' b3);have o3:=HO.out.below b3;clear b3;obtain ⟨hr,hln,_⟩:=ap o3.rd;cases hbu:decide (s<x.il)
 . have HF:Hid (bl x ms (j:Int) s=false):=by unfold Hid;rw [HD.out,hbu];rfl
   go_wp2
   refine bodyPost_ret (v:=.tuple #[.int .i64 0,.bool false]) (by simp [results,Try.results41,go_sem]) rfl ?_
   exact ⟨bL HF.out,B3.out⟩
 skip
 have HD2:Hid (bl x ms (j:Int) s=decide ((aN ss cs false bs (aR s)).length=1)):=by unfold Hid;rw [HD.out,hok,hbu];simp
 generalize hps:aN ss cs false bs (aR s)=ps at hr hln HD2 HV;have HPS:=ab hps;clear hps;by_cases h1:l=1
 . subst h1
   have hT:bl x ms (j:Int) s=true:=by rw [HD2.out,hln];rfl
   have hV:=HV.out hT;obtain ⟨y,rfl⟩:∃y,ps=[y]:=by match ps,hln with|[y],_=>exact ⟨y,rfl⟩
   rcases hr with h0'|⟨b,off,rfl,hbl,hrr⟩
   . simp at h0'
   have hc:w3.cell? ⟨b,off,none⟩=some (.int .i64 y):=hrr 0 (by simp);go_wp2
   refine bodyPost_ret (v:=.tuple #[.int .i64 y,.bool true]) (by simp [results,Try.results41,go_sem]) rfl ?_
   exact ⟨by rw [hV,hT];rfl,B3.out⟩
 have HF:Hid (bl x ms (j:Int) s=false):=by unfold Hid;rw [HD2.out,hln];simpa using h1
 have hl1:((l:Int)==1)=false:=by simp;omega
 have hl2:((l:Int) !=1)=true:=by simp;omega
 go_wp2
 refine bodyPost_ret (v:=.tuple #[.int .i64 0,.bool false]) (by simp [results,Try.results41,go_sem]) rfl ?_
 exact ⟨bL HF.out,B3.out⟩
theorem eM (w:World) (E:TypeId) (x:aF) (ms:List aD) (j:Nat) (s:Int) (a0 a1 a3:Option Addr) (c0 c1 c3:Nat) (ss:List (List Int)) (cs:List (Int×List Int)) (bs:List Int) (h0:aM.Rd w [.slice a0 ss.length c0] ss) (h1:(aP E).Rd w [.slice a1 cs.length c1] cs) (h3:aA.Rd w [.slice a3 bs.length c3] bs) (hw:aB (ss,cs,false,bs)<=2097152) (hd:bl x ms (j:Int) s=(true&&(aI ss cs false bs (aR s)&&decide ((aN ss cs false bs (aR s)).length=1)))) (hv:bl x ms (j:Int) s=true->bo x ms (j:Int) s=(aN ss cs false bs (aR s)).getD 0 0):
 Calls Try.prog 41 #[.iface 88 (.agg #[.slice a0 ss.length c0,.slice a1 cs.length c1,.bool false,.slice a3 bs.length c3]),.int .i64 s] w fun e w'=>e=.returned (.tuple #[.int .i64 (bo x ms (j:Int) s),.bool (bl x ms (j:Int) s)])/\Below w.heap.size w w':=by
 have na : ∀ w, Sem.run Try.prog (nilAhead (245 + 1) 88 (.agg #[.slice a0 ss.length c0, .slice a1 cs.length c1, .bool false, .slice a3 bs.length c3]) "loop.example/g00398/impl.read") w = .ok (some false) w := fun w => by kernel_rfl
 have HD:=ab hd;have HV:=ab hv;clear hd hv;go_enter Try.func41,Try.ntmps41
 go_wp2_with fail
 refine wp_region_held_drew (S:=fun w'=>Below w.heap.size w w') (by kernel_rfl) ?_ (fun ik=>?_)
 . exact (Below.refl _ _).drew
 refine ah (i:=0) (v:=?_) rfl (by kernel_rfl) (by kernel_rfl) (by kernel_rfl) (fun _ _ _ h=>h) (by kernel_rfl) ?_ ik ?_
 rotate_left 1
 . (intro w hSw;(try dsimp only at hSw);go_split_ands;go_simp;first|done|with_reducible rfl)
 simp only [Act.put,List.setIfInBounds_toArray,List.set_cons_zero,List.set_cons_succ]
 refine ah (i:=1) (v:=?_) rfl (by kernel_rfl) (by kernel_rfl) (by kernel_rfl) (fun _ _ _ h=>h) (by kernel_rfl) ?_ ik ?_
 rotate_left 1
 . (intro w hSw;(try dsimp only at hSw);go_split_ands;go_simp;first|done|with_reducible rfl)
 simp only [Act.put,List.setIfInBounds_toArray,List.set_cons_zero,List.set_cons_succ]
 refine ah (i:=3) (v:=?_) rfl (by kernel_rfl) (by kernel_rfl) (by kernel_rfl) (fun _ _ _ h=>h) (by kernel_rfl) ?_ ik ?_
 rotate_left 1
 . (intro w hSw;(try dsimp only at hSw);go_split_ands;go_simp;first|done|with_reducible rfl)
 simp only [Act.put,List.setIfInBounds_toArray,List.set_cons_zero,List.set_cons_succ]
 refine ah (i:=4) (v:=?_) rfl (by kernel_rfl) (by kernel_rfl) (by kernel_rfl) (fun _ _ _ h=>h) (by kernel_rfl) ?_ ik ?_
 rotate_left 1
 . (intro w hSw;(try dsimp only at hSw);go_split_ands;go_simp;first|done|with_reducible rfl)
 simp only [Act.put,List.setIfInBounds_toArray,List.set_cons_zero,List.set_cons_succ]
 refine ah (i:=5) (v:=?_) rfl (by kernel_rfl) (by kernel_rfl) (by kernel_rfl) (fun _ _ _ h=>h) (by kernel_rfl) ?_ ik ?_
 rotate_left 1
 . (intro w hSw;(try dsimp only at hSw);go_split_ands;go_simp;first|done|with_reducible rfl)
 simp only [Act.put,List.setIfInBounds_toArray,List.set_cons_zero,List.set_cons_succ]
 refine ag (i:=2) (by kernel_rfl) rfl (by kernel_rfl) (fun K hK=>?_)
 go_simp
 refine (bK _ _).mono ?_
 rintro e w1 ⟨rfl,h1⟩;subst h1;go_wp2_with fail
 clear ik;refine hK.out _ _ ?_ (fun ik=>?_)
 . exact (Below.refl _ _).drew
 clear hK K;refine ag (i:=6) (by kernel_rfl) rfl (by kernel_rfl) (fun K hK=>?_)
 go_simp
 refine (eh _ E _ _ _ _ _ _ _ _ _ ss cs false bs _ h0.drew h1.drew h3.drew hw).mono ?_
 rintro e w2 ⟨a',l,c',rfl,o2,b2⟩;have b2':Below w.heap.size w w2:=(Below.refl w.heap.size w).drew.trans b2;clear b2;go_wp2_with fail
 clear ik;refine hK.out _ _ ?_ (fun ik=>?_)
 . exact b2'
 clear hK K;refine ah (i:=7) (v:=?_) rfl (by kernel_rfl) (by kernel_rfl) (by kernel_rfl) (fun _ _ _ h=>h) (by kernel_rfl) ?_ ik ?_
 rotate_left 1
 . (intro w hSw;(try dsimp only at hSw);go_split_ands;go_simp;first|done|with_reducible rfl)
 simp only [Act.put,List.setIfInBounds_toArray,List.set_cons_zero,List.set_cons_succ]
 refine ah (i:=8) (v:=?_) rfl (by kernel_rfl) (by kernel_rfl) (by kernel_rfl) (fun _ _ _ h=>h) (by kernel_rfl) ?_ ik ?_
 rotate_left 1
 . (intro w hSw;(try dsimp only at hSw);go_split_ands;go_simp;first|done|with_reducible rfl)
 simp only [Act.put,List.setIfInBounds_toArray,List.set_cons_zero,List.set_cons_succ]
 refine ah (i:=9) (v:=?_) rfl (by kernel_rfl) (by kernel_rfl) (by kernel_rfl) (fun _ _ _ h=>h) (by kernel_rfl) ?_ ik ?_
 rotate_left 1
 . (intro w hSw;(try dsimp only at hSw);go_split_ands;go_simp;first|done|with_reducible rfl)
 simp only [Act.put,List.setIfInBounds_toArray,List.set_cons_zero,List.set_cons_succ]
 refine ah (i:=10) (v:=?_) rfl (by kernel_rfl) (by kernel_rfl) (by kernel_rfl) (fun _ _ _ h=>h) (by kernel_rfl) ?_ ik ?_
 rotate_left 1
 . (intro w hSw;(try dsimp only at hSw);go_split_ands;go_simp;first|done|with_reducible rfl)
 simp only [Act.put,List.setIfInBounds_toArray,List.set_cons_zero,List.set_cons_succ]
 refine ah (i:=11) (v:=?_) rfl (by kernel_rfl) (by kernel_rfl) (by kernel_rfl) (fun _ _ _ h=>h) (by kernel_rfl) ?_ ik ?_
 rotate_left 1
 . (intro w hSw;(try dsimp only at hSw);go_split_ands;go_simp;first|done|with_reducible rfl)
 simp only [Act.put,List.setIfInBounds_toArray,List.set_cons_zero,List.set_cons_succ]
 refine wpAnyH_done (by kernel_rfl) ?_ _
 clear ik;have HO:=ab o2;clear o2;cases hok:aI ss cs false bs (aR s)
 . have HF:Hid (bl x ms (j:Int) s=false):=by unfold Hid;rw [HD.out,hok];simp
   go_wp2
   refine bodyPost_ret (v:=.tuple #[.int .i64 0,.bool false]) (by simp [results,Try.results41,go_sem]) rfl ?_
   exact ⟨bL HF.out,b2'⟩
 go_wp2_with fail
 refine (fi _ _ _ _ _ _ _ _ _ _ _ _).mono ?_
 rintro e w3 ⟨rfl,b3⟩;have B3:=ab (Below.andThen b2' b3);have o3:=HO.out.below b3;clear b3;obtain ⟨hr,hln,_⟩:=ap o3.rd;have HD2:Hid (bl x ms (j:Int) s=decide ((aN ss cs false bs (aR s)).length=1)):=by unfold Hid;rw [HD.out,hok];simp
 generalize hps:aN ss cs false bs (aR s)=ps at hr hln HD2 HV;have HPS:=ab hps;clear hps;by_cases h1:l=1
 . subst h1
   have hT:bl x ms (j:Int) s=true:=by rw [HD2.out,hln];rfl
   have hV:=HV.out hT;obtain ⟨y,rfl⟩:∃y,ps=[y]:=by match ps,hln with|[y],_=>exact ⟨y,rfl⟩
   rcases hr with h0'|⟨b,off,rfl,hbl,hrr⟩
   . simp at h0'
   have hc:w3.cell? ⟨b,off,none⟩=some (.int .i64 y):=hrr 0 (by simp);go_wp2
   refine bodyPost_ret (v:=.tuple #[.int .i64 y,.bool true]) (by simp [results,Try.results41,go_sem]) rfl ?_
   exact ⟨by rw [hV,hT];rfl,B3.out⟩
 have HF:Hid (bl x ms (j:Int) s=false):=by unfold Hid;rw [HD2.out,hln];simpa using h1
 have hl1:((l:Int)==1)=false:=by simp;omega
 have hl2:((l:Int) !=1)=true:=by simp;omega
 go_wp2
 refine bodyPost_ret (v:=.tuple #[.int .i64 0,.bool false]) (by simp [results,Try.results41,go_sem]) rfl ?_
 exact ⟨bL HF.out,B3.out⟩
end Go.Proofs.Ytfimpohbpccjaaa

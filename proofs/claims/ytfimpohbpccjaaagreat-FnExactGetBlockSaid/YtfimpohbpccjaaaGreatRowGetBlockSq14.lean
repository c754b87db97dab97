/-
 The program's list of entries in order: what tells an entry's stripe, and the search by it (slices.BinarySearchFunc): where a stripe's entry stands or would stand, and whether it is there. Conditions: at most 2097152 entries, ascending by stripe; stripes and what is sought lie in 0 .. 100.
-/
import Derived.Test.YtfimpohbpccjaaaGreatRowGetBlockSq11

set_option maxRecDepth 100000
set_option maxHeartbeats 8000000
set_option linter.unusedSimpArgs false

namespace Go.Proofs.YtfimpohbpccjaaaGreat
open Go.RowKit

def Found (ds:List (Int×List Int)) (t:Int) (w:World) (e:Ending) (w':World):Prop:=∃(k:Nat) (r:Bool),e=.returned (.tuple #[.int .i64 k,.bool r])/\fM ds t k r/\Below w.heap.size w w'
theorem gO (w:World) (y:Int) (a:Option Addr) (n c:Nat):Calls Tryz.prog 115 #[.agg #[.int .i64 y,.slice a n c]] w fun e w'=>e=.returned (.int .i64 y)/\Below w.heap.size w w':=by
 have hA:=af w (.cells #[.int .i64 y,.slice a n c] 63);have xm:=Box.new w 63 #[.int .i64 y,.slice a n c];have c0:(w.alloc (.cells #[.int .i64 y,.slice a n c] 63)).cell? ⟨w.heap.size,0,none⟩=some (.int .i64 y):=xm.cell 0;have HA:=ab hA;clear hA xm;go_enter Tryz.func115,Tryz.ntmps115
 go_wp2
 go_ret
 exact ⟨rfl,HA.out⟩
theorem fl (w:World) (y t:Int) (a:Option Addr) (n c:Nat) (hy:0<=y/\y<=100) (ht:0<=t/\t<=100):Calls Tryz.prog 78 #[.agg #[.int .i64 y,.slice a n c],.int .i64 t] w fun e w'=>e=.returned (.int .i64 (y-t))/\Below w.heap.size w w':=by
 have hA:=af w (.cells #[.int .i64 y,.slice a n c] 63);have xm:=Box.new w 63 #[.int .i64 y,.slice a n c];have c0:(w.alloc (.cells #[.int .i64 y,.slice a n c] 63)).cell? ⟨w.heap.size,0,none⟩=some (.int .i64 y):=xm.cell 0;have c1:(w.alloc (.cells #[.int .i64 y,.slice a n c] 63)).cell? ⟨w.heap.size,1,none⟩=some (.slice a n c):=xm.cell 1;have HA:=ab hA;have gw:IntKind.i64.wrap (y-t)=y-t:=IntWalk.i64_in _ (by omega)
 have na : ∀ w, Sem.run Tryz.prog (nilAhead (246 + 1) 63 (.agg #[.int .i64 y, .slice a n c]) "loop.example/g00398/impl.stripe") w = .ok (some false) w := fun w => by kernel_rfl
 clear hA xm;go_enter Tryz.func78,Tryz.ntmps78
 go_wp2_with fail
 refine (gO _ _ _ _ _).mono ?_
 rintro e w1 ⟨rfl,b1⟩;have HB:=ab (Below.andThen HA.out b1);clear b1 HA c0 c1;go_wp2
 go_ret
 exact ⟨rfl,HB.out⟩
theorem gb (w:World) (G:TypeId) (a:Option Addr) (len cap:Nat) (ds:List (Int×List Int)) (t:Int) (h1:(aV G).Rd w [.slice a len cap] ds) (hlen:len<=2097152) (ha:Asc8 ds) (ht:0<=t/\t<=100):
 Calls Tryz.prog 77 #[.slice a len cap,.int .i64 t,.func (Fn.func 78) #[] #[]] w fun e w'=>Found ds t w e w':=by
 obtain ⟨hz,_,_⟩:=ag h1;have HT:=ab ht;have HASC:=ab ha;clear ht ha;go_enter Tryz.func77,Tryz.ntmps77
 go_wp2
 go_loopw [9,10] (fun iv jv wr=>∃(i j:Nat),i<=j/\j<=len/\iv=.int .i64 i/\jv=.int .i64 j/\(∀q e,q<i->ds[q]?=some e->e.1<t)/\(∀q e,j<=q->ds[q]?=some e->t<=e.1)/\Below w.heap.size w wr) (fun iv jv _=>(intOf jv).toNat-(intOf iv).toNat)
 case atStart=>exact ⟨0,len,Nat.zero_le _,Nat.le_refl _,rfl,rfl,fun q e h=>absurd h (by omega),fun q e h he=>absurd (List.getElem?_eq_some_iff.1 he).1 (by omega),Below.refl _ _⟩
 obtain ⟨i,j,hij,hj,rfl,rfl,hlo,hhi,hs⟩:=hrel;by_cases hlt:i<j
 . have k1:(i:Int)<(j:Int):=by omega
   rcases aX rfl h1 with h0|⟨b,off,rfl,hbl,hcs⟩
   . omega
   obtain ⟨m,hm⟩:∃m:Nat,((i:Int)+(j:Int)) / 2=(m:Int):=⟨(i+j) / 2,by omega⟩;have hm1:i<=m:=by omega
   have hm2:m<j:=by omega
   have hdj:ds[m]?=some (ds[m]'(by omega)):=List.getElem?_eq_getElem (by omega);generalize ds[m]'(by omega)=d at hdj;obtain ⟨u0,u1,hv0,hv1,hrv⟩:=hcs m d hdj;obtain ⟨rfl,hr1⟩:=bN hrv;obtain ⟨y,ys⟩:=d;simp only at hv0 hr1
   obtain ⟨a1,c1,rfl⟩:=aq hr1;have hc0:=(hs.cell (p:=⟨b,off+m*2,none⟩) hbl).trans hv0;have hc1:=(hs.cell (p:=⟨b,off+m*2+1,none⟩) hbl).trans hv1;have gw1:IntKind.i64.wrap ((i:Int)+(j:Int))=(i:Int)+(j:Int):=IntWalk.i64_in _ (by omega);have gw3:IntKind.i64.wrap (m:Int)=(m:Int):=IntWalk.i64_in _ (by omega);have k2:(0:Int)<=(m:Int):=by omega
   have k3:(m:Int)<(len:Int):=by omega
   have HLO:=ab hlo;have HHI:=ab hhi;have HDJ:=ab hdj;have HS:=ab hs;have HY:Hid (0<=y/\y<=100):=HASC.out.2 m _ hdj;clear hlo hhi hcs hv0 hv1 hrv hr1 hdj hs;go_wp2_with fail
   refine (fl _ _ _ _ _ _ HY.out HT.out).mono ?_
   rintro e w1 ⟨rfl,b1⟩;have HB:=ab (Below.andThen HS.out b1);clear b1 HS hc0 hc1;by_cases hx:y-t<0
   . go_wp2
     go_roundw
     case rel=>exact ⟨m+1,j,by omega,hj,by go_num,rfl,fun q e hq he=>by
      by_cases hqm:q=m
      . subst hqm
        rw [HDJ.out] at he;simp at he
        subst he;show y<t
        omega
      have:=HASC.out.1 q m e _ (by omega) he HDJ.out;have:e.1<y:=this;omega,HHI.out,HB.out⟩
     case measure=>simp [intOf];omega
   go_wp2
   go_roundw
   case rel=>exact ⟨i,m,hm1,by omega,rfl,rfl,HLO.out,fun q e hq he=>by
    by_cases hqm:q=m
    . subst hqm
      rw [HDJ.out] at he;simp at he
      subst he;show t<=y
      omega
    have:=HASC.out.1 m q _ e (by omega) HDJ.out he;have:y<e.1:=this;omega,HB.out⟩
   case measure=>simp [intOf];omega
 have e:i=j:=by omega
 subst e;by_cases hil:i<len
 . rcases aX rfl h1 with h0|⟨b,off,rfl,hbl,hcs⟩
   . omega
   have hdj:ds[i]?=some (ds[i]'(by omega)):=List.getElem?_eq_getElem (by omega);generalize ds[i]'(by omega)=d at hdj;obtain ⟨u0,u1,hv0,hv1,hrv⟩:=hcs i d hdj;obtain ⟨rfl,hr1⟩:=bN hrv;obtain ⟨y,ys⟩:=d;simp only at hv0 hr1
   obtain ⟨a1,c1,rfl⟩:=aq hr1;have hc0:=(hs.cell (p:=⟨b,off+i*2,none⟩) hbl).trans hv0;have hc1:=(hs.cell (p:=⟨b,off+i*2+1,none⟩) hbl).trans hv1;have k2:(0:Int)<=(i:Int):=by omega
   have k3:(i:Int)<(len:Int):=by omega
   have HLO:=ab hlo;have HHI:=ab hhi;have HDJ:=ab hdj;have HS:=ab hs;have HY:Hid (0<=y/\y<=100):=HASC.out.2 i _ hdj;clear hlo hhi hcs hv0 hv1 hrv hr1 hdj hs;go_wp2_with fail
   refine (fl _ _ _ _ _ _ HY.out HT.out).mono ?_
   rintro e w1 ⟨rfl,b1⟩;have HB:=ab (Below.andThen HS.out b1);clear b1 HS hc0 hc1;by_cases hx:y-t=0
   . have HP:Hid (fM ds t i true):=⟨by omega,HLO.out,HHI.out,.inl ⟨rfl,_,HDJ.out,by show y=t;omega⟩⟩
     go_wp2
     go_ret2
     exact ⟨i,true,by first|rfl|simp [hx],HP.out,HB.out⟩
   have HP:Hid (fM ds t i false):=⟨by omega,HLO.out,HHI.out,.inr ⟨rfl,fun e he h'=>by
    rw [HDJ.out] at he;simp at he
    subst he;have:y=t:=h';omega⟩⟩
   have e1:(y-t==0)=false:=by simpa using hx
   go_wp2
   go_ret2
   exact ⟨i,false,by first|rfl|simp [hx],HP.out,HB.out⟩
 have HP:Hid (fM ds t i false):=⟨by omega,hlo,hhi,.inr ⟨rfl,fun e he=>by have:=(List.getElem?_eq_some_iff.1 he).1;omega⟩⟩;have k3:¬(i:Int)<(len:Int):=by omega
 have HS:=ab hs;clear hlo hhi hs;go_wp2
 go_ret2
 exact ⟨i,false,by first|rfl|simp,HP.out,HS.out⟩
theorem iT (w:World) (G:TypeId) (a:Option Addr) (len cap:Nat) (ds:List (Int×List Int)) (t:Int) (h1:(aV G).Rd w [.slice a len cap] ds) (hlen:len<=2097152) (ha:Asc8 ds) (ht:0<=t/\t<=100):
 Calls Tryz.prog 57 #[.slice a len cap,.int .i64 t] w fun e w'=>Found ds t w e w':=by
 go_enter Tryz.func57,Tryz.ntmps57
 go_wp2_with fail
 refine (gb _ G _ _ _ ds t h1 hlen ha ht).mono ?_
 rintro e w1 ⟨k,r,rfl,hp,b1⟩;have HP:=ab hp;have HB:=ab b1;clear hp b1 h1 ha ht;go_wp2
 go_ret2
 exact ⟨k,r,rfl,HP.out,HB.out⟩
def Asked (ds:List (Int×List Int)) (t:Int) (Q:Nat->List Int->Option Addr->Nat->Prop) (w:World) (e:Ending) (w':World):Prop:=
 ((at8 ds t=-1/\e=.returned (.tuple #[.agg #[.int .i64 0,.slice none 0 0],.bool false]))∨∃(k:Nat) (ys:List Int) (a':Option Addr) (c':Nat),at8 ds t=(k:Int)/\ds[k]?=some (t,ys)/\e=.returned (.tuple #[.agg #[.int .i64 t,.slice a' ys.length c'],.bool true])/\Q k ys a' c')/\Below w.heap.size w w'
theorem of_any (w:World) (G:TypeId) (a:Option Addr) (len cap:Nat) (ds:List (Int×List Int)) (t:Int) (h1:(aV G).Rd w [.slice a len cap] ds) (hlen:len<=2097152) (ha:Asc8 ds) (ht:0<=t/\t<=100) (Q:Nat->List Int->Option Addr->Nat->Prop) (hQ:iH w a ds Q):
 Calls Tryz.prog 37 #[.slice a len cap,.int .i64 t] w fun e w'=>Asked ds t Q w e w':=by
 have hA:=af w (.cells #[.int .i64 0,.slice none 0 0] 63);have R0:=Box.new w 63 #[.int .i64 0,.slice none 0 0];have zR:=R0.lt;have r1:=h1.below hA;have HA:=ab hA;have hl:=(ag h1).1;clear h1;go_enter Tryz.func37,Tryz.ntmps37
 go_wp2_with fail
 generalize w.alloc (.cells #[.int .i64 0,.slice none 0 0] 63)=W at hA R0 zR r1 HA ⊢;refine (iT _ G _ _ _ ds t r1 hlen ha ht).mono ?_
 rintro e w1 ⟨k,r,rfl,hp,b1⟩;have R1:=R0.below b1 zR;have B1:=Below.andThen hA b1;have z1:=b1.size;clear R0 r1 b1 hA HA;cases r
 . have HM:=ab (hp.miss ha)
   have BN:=af w1 (.cells #[.int .i64 0,.slice none 0 0] 63);have N1:=Box.new w1 63 #[.int .i64 0,.slice none 0 0];have R2:=R1.below BN R1.lt;have B2:=Below.andThen B1 BN;have n0:=N1.cell 0;have n1:=N1.cell 1;have s0:=R2.cell 0;have s1:=R2.cell 1;have fz:=R2.frozen;have HB:Hid (Below w.heap.size w (((w1.alloc (.cells #[.int .i64 0,.slice none 0 0] 63)).setCell ⟨w.heap.size,0,none⟩ (.int .i64 0)).setCell ⟨w.heap.size,1,none⟩ (.slice none 0 0))):=(B2.setCell (Nat.le_refl _) _).setCell (Nat.le_refl _) _;clear R1 B1 BN N1 R2 B2 hp hQ ha ht;go_wp2
   refine bodyPost_ret (v:=.tuple #[.agg #[.int .i64 0,.slice none 0 0],.bool false]) (by simp [results,Tryz.results37,go_sem,s0,s1]) rfl ?_
   exact ⟨.inl ⟨HM.out,rfl⟩,HB.out⟩
 obtain ⟨hat,d,hdk,hdt⟩:=hp.hit;obtain ⟨y,ys⟩:=d;simp only at hdt
 subst hdt;obtain ⟨b,off,a1,c1,rfl,hbl,hv0,hv1,hq⟩:=hQ k _ hdk;have hc0:=(B1.cell (p:=⟨b,off+k*2,none⟩) hbl).trans hv0;have hc1:=(B1.cell (p:=⟨b,off+k*2+1,none⟩) hbl).trans hv1;have hkl:=(List.getElem?_eq_some_iff.1 hdk).1;have k2:(0:Int)<=(k:Int):=by omega
 have k3:(k:Int)<(len:Int):=by omega
 have s0:=R1.cell 0;have s1:=R1.cell 1;have fz:=R1.frozen;have HH:=ab hat;have HK:=ab hdk;have HQ:=ab hq;have HB:Hid (Below w.heap.size w ((w1.setCell ⟨w.heap.size,0,none⟩ (.int .i64 y)).setCell ⟨w.heap.size,1,none⟩ (.slice a1 ys.length c1))):=(B1.setCell (Nat.le_refl _) _).setCell (Nat.le_refl _) _;clear R1 B1 hp hQ ha ht hat hdk hq hv0 hv1;go_wp2
 refine bodyPost_ret (v:=.tuple #[.agg #[.int .i64 y,.slice a1 ys.length c1],.bool true]) (by simp [results,Tryz.results37,go_sem,s0,s1]) rfl ?_
 exact ⟨.inr ⟨k,ys,a1,c1,HH.out,HK.out,rfl,HQ.out⟩,HB.out⟩
end Go.Proofs.YtfimpohbpccjaaaGreat

/-
 Plain lemmas: a row of a call's own with several elements more, at once ('append(a, b...)' of elements that are anything). No condition; nothing of the program is named here.
-/
import Derived.Test.YtgjomldcnjjpaaaGreatRowArrsSq2
import Derived.Test.YtgjomldcnjjpaaaGreatRowArrsSq3
import Derived.Test.YtgjomldcnjjpaaaGreatRowArrsSq5
import Derived.Laws.IdiomCopy
import Derived.Laws.MakeOwn

set_option maxRecDepth 100000
set_option maxHeartbeats 8000000
set_option linter.unusedSimpArgs false

namespace Go.Proofs.YtgjomldcnjjpaaaGreat
open Go.RowKit

def bC (n:Int):List (List Int):=if 1<=n/\n<=20 then List.replicate n.toNat [] else []
theorem gH (w:World) (n:Int):
 Calls Tryz.prog 57 #[.int .i64 n] w fun e w'=>∃a0 c0,e=.returned (.agg #[.slice a0 (bC n).length c0,.slice none 0 0,.bool false,.slice none 0 0]) /\
  aU.Own w' w.heap.size w'.heap.size [.slice a0 (bC n).length c0] (bC n)/\Below w.heap.size w w':=by
 obtain ⟨i0,hi,hz0,hz1,hz2⟩:=info_parts Tryz.infoIntS;have hA:Below w.heap.size w (w.alloc (.cells #[.slice none 0 0,.slice none 0 0,.bool false,.slice none 0 0] 55)):=(Below.refl _ _).alloc (Nat.le_refl _) _;by_cases h1:1<=n
 . by_cases h2:n<=20
   . obtain ⟨k,rfl⟩:∃k:Nat,n=(k:Int):=⟨n.toNat,by omega⟩
     have hk:k<=20:=by omega
     have hb3:i0.bytes*k<=281474976710656:=by rw [hz2];omega
     have hm3:k<=maxLen:=by unfold maxLen;omega
     have hN:bC (k:Int)=List.replicate k []:=by unfold bC;rw [if_pos ⟨h1,h2⟩,Int.toNat_natCast]
     have HN:=aa hN;clear hN;go_enter Tryz.func57,Tryz.ntmps57
     go_wp2_with (at_make;refine wpList_make_full _ rfl _ _ 52 rfl (w.heap.size+1) 42 i0 (.slice none 0 0) 1 Tryz.underlying52 hi hz0 hz1 _ _ _ _ k rfl rfl rfl rfl hb3 hm3 (by simp) ?_;intro w1 hown hgrow;have hB1:Below (w.alloc (.cells #[.slice none 0 0,.slice none 0 0,.bool false,.slice none 0 0] 55)).heap.size (w.alloc (.cells #[.slice none 0 0,.slice none 0 0,.bool false,.slice none 0 0] 55)) w1:=(Below.refl _ _).grown hgrow (Nat.le_refl _) (by simp);have hbx:=(Box.new w 55 #[.slice none 0 0,.slice none 0 0,.bool false,.slice none 0 0]).below hB1 (by simp);obtain ⟨b0,b1,b2,b3⟩:=hbx.cells4;have fz:=hbx.frozen)
     have hs1:w.heap.size+1<=w1.heap.size:=by have:=hgrow.size;simp at this;exact this
     have hO:=vp (t:=aD) (z:=[]) hown (by omega) rfl (fun _=>.inl ⟨rfl,rfl,rfl⟩);have eW:(w.alloc (.cells #[.slice none 0 0,.slice none 0 0,.bool false,.slice none 0 0] 55)).heap.size=w.heap.size+1:=by simp
     rw [eW] at hO;have hbt:But w.heap.size (w.heap.size+1) w1 ((((w1.setCell ⟨w.heap.size,0,none⟩ (.slice (some ⟨w.heap.size+1,0,none⟩) k k)).setCell ⟨w.heap.size,1,none⟩ (.slice none 0 0)).setCell ⟨w.heap.size,2,none⟩ (.bool false)).setCell ⟨w.heap.size,3,none⟩ (.slice none 0 0)):=
      (((But.setCell (by omega) (by omega) _).trans (But.setCell (by omega) (by omega) _)).trans (But.setCell (by omega) (by omega) _)).trans (But.setCell (by omega) (by omega) _)
     have hO':=hO.but hbt (.inr (Nat.le_refl _));have hB':=Below.andBut (hA.trans (hB1.mono (by simp))) hbt (Nat.le_refl _);have hS:=hbt.size;refine bodyPost_ret (v:=.agg #[.slice (some ⟨w.heap.size+1,0,none⟩) k k,.slice none 0 0,.bool false,.slice none 0 0]) (by simp [results,Tryz.results57,go_sem,b0,b1,b2,b3]) rfl ?_
     have hl:(bC (k:Int)).length=k:=by rw [HN.out,List.length_replicate]
     rw [hl,HN.out];exact ⟨_,_,rfl,hO'.widen (by omega) hS,hB'⟩
   have hN:bC n=[]:=by unfold bC;rw [if_neg (by omega)]
   rw [hN];go_enter Tryz.func57,Tryz.ntmps57
   go_wp2
   refine bodyPost_ret (v:=.agg #[.slice none 0 0,.slice none 0 0,.bool false,.slice none 0 0]) (by simp [results,Tryz.results57,go_sem]) rfl ⟨none,0,rfl,bS _ _ _,hA⟩
 have hN:bC n=[]:=by unfold bC;rw [if_neg (by omega)]
 rw [hN];go_enter Tryz.func57,Tryz.ntmps57
 go_wp2
 refine bodyPost_ret (v:=.agg #[.slice none 0 0,.slice none 0 0,.bool false,.slice none 0 0]) (by simp [results,Tryz.results57,go_sem]) rfl ⟨none,0,rfl,bS _ _ _,hA⟩
theorem gI (w:World) (n:Int):
 Calls Tryz.prog 42 #[.int .i64 n] w fun e w'=>∃a0 c0,e=.returned (.agg #[.slice a0 (bC n).length c0,.slice none 0 0,.bool false,.slice none 0 0]) /\
  aU.Own w' w.heap.size w'.heap.size [.slice a0 (bC n).length c0] (bC n)/\Below w.heap.size w w':=by
 obtain ⟨i0,hi,hz0,hz1,hz2⟩:=info_parts Tryz.infoIntS;by_cases h1:inB n 1 20=true
 . have hn:1<=n/\n<=20:=by unfold inB at h1;simpa using h1
   obtain ⟨k,rfl⟩:∃k:Nat,n=(k:Int):=⟨n.toNat,by omega⟩;have hk:k<=20:=by omega
   have hN:bC (k:Int)=List.replicate k []:=by unfold bC;rw [if_pos hn,Int.toNat_natCast]
   have HN:=aa hN;clear hN hn;have hA:Below w.heap.size w ((w.alloc (.cells #[.slice none 0 0,.slice none 0 0,.bool false,.slice none 0 0] 55)).alloc (.cells #[.slice none 0 0,.slice none 0 0,.bool false,.slice none 0 0] 55)):=((Below.refl _ _).alloc (Nat.le_refl _) _).alloc (by simp) _;have hB0:Box ((w.alloc (.cells #[.slice none 0 0,.slice none 0 0,.bool false,.slice none 0 0] 55)).alloc (.cells #[.slice none 0 0,.slice none 0 0,.bool false,.slice none 0 0] 55)) w.heap.size 55 #[.slice none 0 0,.slice none 0 0,.bool false,.slice none 0 0]:=(Box.new w _ _).alloc _;have hB1:Box ((w.alloc (.cells #[.slice none 0 0,.slice none 0 0,.bool false,.slice none 0 0] 55)).alloc (.cells #[.slice none 0 0,.slice none 0 0,.bool false,.slice none 0 0] 55)) (w.heap.size+1) 55 #[.slice none 0 0,.slice none 0 0,.bool false,.slice none 0 0]:=by
    have:=Box.new (w.alloc (.cells #[.slice none 0 0,.slice none 0 0,.bool false,.slice none 0 0] 55)) 55 #[.slice none 0 0,.slice none 0 0,.bool false,.slice none 0 0];rw [show (w.alloc (.cells #[.slice none 0 0,.slice none 0 0,.bool false,.slice none 0 0] 55)).heap.size=w.heap.size+1 by simp] at this;exact this
   go_enter Tryz.func42,Tryz.ntmps42
   go_wp2_with fail
   refine (aE _ _ _ _).mono ?_
   rintro e w1 ⟨rfl,hw1⟩;subst w1;go_wp2
   generalize hW:(w.alloc (.cells #[.slice none 0 0,.slice none 0 0,.bool false,.slice none 0 0] 55)).alloc (.cells #[.slice none 0 0,.slice none 0 0,.bool false,.slice none 0 0] 55)=W at hA hB0 hB1 ⊢;clear hW;go_loopw [4] (fun i wr=>∃(j:Nat) (v:Value) (fp:List Nat),j<=k/\i=.int .i64 j/\Box wr w.heap.size 55 #[.slice none 0 0,.slice none 0 0,.bool false,.slice none 0 0]/\Box wr (w.heap.size+1) 55 #[v,.slice none 0 0,.bool false,.slice none 0 0]/\aU.Mine wr [v] (List.replicate j []) fp/\(∀b∈fp,w.heap.size+1<b)/\Below w.heap.size w wr) (fun i _=>k-(intOf i).toNat)
   case atStart=>exact ⟨0,_,[],Nat.zero_le _,rfl,hB0,hB1,cP _,by simp,hA⟩
   clear hA hB0 hB1;obtain ⟨j,v,fp,hj,rfl,x0,x1,ho,hfp,hb⟩:=hrel;obtain ⟨q0,_,_,_⟩:=x1.cells4;by_cases hjn:j<k
   . have hj1:(j:Int)<(k:Int):=by omega
     have M1:=aa (((ho.alloc (.cells #[] 3)).alloc (.cells #[.slice (some ⟨wr.heap.size,0,none⟩) 0 0] 42)));have E1:=aa ((ig (t:=eT) (E:=3) wr).alloc (.cells #[.slice (some ⟨wr.heap.size,0,none⟩) 0 0] 42));have n1:=bN (wr.alloc (.cells #[] 3)) #[.slice (some ⟨wr.heap.size,0,none⟩) 0 0] 42;rw [show (wr.alloc (.cells #[] 3)).heap.size=wr.heap.size+1 by simp] at n1;have N1:=aa n1;clear n1;have hlt:=ho.lt;have D1:=aa (show ∀b∈fp,b∉[wr.heap.size] from fun b hb hb'=>by have:=hlt b hb;simp at hb';omega);have X0:=aa ((x0.alloc (.cells #[] 3)).alloc (.cells #[.slice (some ⟨wr.heap.size,0,none⟩) 0 0] 42));have X1:=aa ((x1.alloc (.cells #[] 3)).alloc (.cells #[.slice (some ⟨wr.heap.size,0,none⟩) 0 0] 42));have F0:=aa (show w.heap.size∉fp from fun hm=>by have:=hfp _ hm;omega);have F1:=aa (show w.heap.size+1∉fp from fun hm=>by have:=hfp _ hm;omega);have HFP:=aa hfp;have BA:=aa ((hb.alloc hb.size (.cells #[] 3)).alloc (by simp;have:=hb.size;omega) (.cells #[.slice (some ⟨wr.heap.size,0,none⟩) 0 0] 42));have hsz:=x1.lt;have O1:=aa (show ∀u∈[Value.slice (some ⟨wr.heap.size,0,none⟩) 0 0],u.oneCell'=true from fun u hu=>by simp at hu;rw [hu];rfl);have L1:=aa (show (List.replicate j ([]:List Int)).length+1<=maxLen by rw [List.length_replicate];unfold maxLen;omega);have L2:=aa (show ((List.replicate j ([]:List Int)).length+1)*24<=140737488355328 by rw [List.length_replicate];omega);clear ho hlt hfp x0 x1 hb;have HREP:=aa (show List.replicate j ([]:List Int)++[[]]=List.replicate (j+1) [] by rw [List.replicate_succ']);go_wp2_with (at_builtin;refine cO aD rfl (.tmp 16) (.tmp 18) 52 rfl 42 i0 (.slice none 0 0) 24 Tryz.underlying52 hi hz0 hz1 hz2 rfl Nat.zero_lt_one v (List.replicate j []) fp rfl ?_ ⟨wr.heap.size+1,0,none⟩ 1 [.slice (some ⟨wr.heap.size,0,none⟩) 0 0] [] [wr.heap.size] rfl ?_ ?_ ?_ ?_ ?_ ?_ ?_;exact M1.out;exact E1.out;exact D1.out;exact N1.out;exact O1.out;exact L1.out;exact L2.out;intro v2 w2 fp2 m1 m2 m3;rw [HREP.out] at m1;obtain ⟨a2,c2,hv2⟩:=aC m1.rd;rw [List.length_replicate] at hv2;subst hv2;have y1:=X1.out.turned m3 F1.out;obtain ⟨r0,_,_,_⟩:=y1.cells4;have fz:=y1.frozen 0;have Y1:=aa y1;have HM1:=aa m1;have HM2:=aa m2;have HM3:=aa m3;clear m1 m2 m3 y1)
     have hf2:∀b∈fp2,w.heap.size+1<b:=by
      intro b hb;rcases HM2.out b hb with h|h|h
      . exact HFP.out b h
      . simp at h
        omega
      have:=h.1;simp at this
      omega
     have hmine:=HM1.out.setCell (g:=w.heap.size+1) (j:=0) (fun hm=>by have:=hf2 _ hm;omega) (.slice a2 (j+1) c2);have Z0:=aa ((X0.out.turned HM3.out F0.out).other (g:=w.heap.size+1) (by omega) 0 (.slice a2 (j+1) c2));have Z1:=aa (Y1.out.set 0 (.slice a2 (j+1) c2));have ZM:=aa hmine;have ZB:=aa ((BA.out.trans (HM3.out.below (N:=w.heap.size) (by simp;omega) (fun b hb=>by have:=HFP.out b hb;omega))).setCell (p:=⟨w.heap.size+1,0,none⟩) (by simp) (.slice a2 (j+1) c2));clear M1 E1 N1 D1 O1 L1 L2 X0 X1 F0 F1 HFP BA HM1 HM2 HM3 Y1 hmine HREP;go_roundw
     case rel=>exact ⟨j+1,_,fp2,by omega,by go_num,Z0.out,Z1.out,ZM.out,hf2,ZB.out⟩
     case measure=>simp [intOf];omega
   have e:j=k:=by omega
   subst e;obtain ⟨a0,c0,hv⟩:=aC ho.rd;subst hv;rw [List.length_replicate] at q0 x1 ho;obtain ⟨_,q1,q2,q3⟩:=x1.cells4;obtain ⟨p0,p1,p2,p3⟩:=x0.cells4;have fz:=x0.frozen;have hbt:But w.heap.size (w.heap.size+1) wr ((((wr.setCell ⟨w.heap.size,0,none⟩ (.slice a0 j c0)).setCell ⟨w.heap.size,1,none⟩ (.slice none 0 0)).setCell ⟨w.heap.size,2,none⟩ (.bool false)).setCell ⟨w.heap.size,3,none⟩ (.slice none 0 0)):=
    (((But.setCell (by omega) (by omega) _).trans (But.setCell (by omega) (by omega) _)).trans (But.setCell (by omega) (by omega) _)).trans (But.setCell (by omega) (by omega) _)
   have hlt:=ho.lt;have HO:=aa ((ho.own (lo:=w.heap.size+1) (hi:=wr.heap.size) (fun b hb=>by have h1:=hfp b hb;have h2:=hlt b hb;omega)).but hbt (.inr (Nat.le_refl _)));have HB:=aa (Below.andBut hb hbt (Nat.le_refl _));have HS:=aa hbt.size;clear hbt ho hb hfp hlt x0 x1;go_wp2
   refine bodyPost_ret (v:=.agg #[.slice a0 j c0,.slice none 0 0,.bool false,.slice none 0 0]) (by simp [results,Tryz.results42,go_sem,p0,p1,p2,p3]) rfl ?_
   have hl:(bC (j:Int)).length=j:=by rw [HN.out,List.length_replicate]
   rw [hl,HN.out];exact ⟨_,_,rfl,HO.out.widen (by omega) HS.out,HB.out⟩
 have hN:bC n=[]:=by unfold bC;rw [if_neg (by intro h;apply h1;unfold inB;simp;omega)]
 rw [hN];have h1:inB n 1 20=false:=by simpa using h1
 have hA:Below w.heap.size w (w.alloc (.cells #[.slice none 0 0,.slice none 0 0,.bool false,.slice none 0 0] 55)):=(Below.refl _ _).alloc (Nat.le_refl _) _;go_enter Tryz.func42,Tryz.ntmps42
 go_wp2_with fail
 refine (aE _ _ _ _).mono ?_
 rintro e w1 ⟨rfl,hw1⟩;subst w1;go_wp2
 refine bodyPost_ret (v:=.agg #[.slice none 0 0,.slice none 0 0,.bool false,.slice none 0 0]) (by simp [results,Tryz.results42,go_sem]) rfl ⟨none,0,rfl,bS _ _ _,hA⟩
def jA (x y:Int) (zs:List Int):Bool:=inB x 0 60000&&(inB y 0 7&&(inB (zs.length:Int) 2 4&&dg zs))
theorem recB_x {x y:Int} {zs:List Int} (h:inB x 0 60000=false):jA x y zs=false:=by unfold jA;rw [h];rfl
theorem recB_y {x y:Int} {zs:List Int} (h:inB y 0 7=false):jA x y zs=false:=by unfold jA;rw [h];simp
theorem recB_n {x y:Int} {zs:List Int} (h:inB (zs.length:Int) 2 4=false):jA x y zs=false:=by unfold jA;rw [h];simp
theorem recB_w {x y:Int} {zs:List Int} (h1:inB x 0 60000=true) (h2:inB y 0 7=true) (h3:inB (zs.length:Int) 2 4=true):jA x y zs=dg zs:=by unfold jA;rw [h1,h2,h3];rfl
theorem xM {x y:Int} {zs:List Int}:jA x y zs=true ↔ (0<=x/\x<=60000)/\(0<=y/\y<=7)/\(2<=zs.length/\zs.length<=4)/\dg zs=true:=by
 unfold jA inB;simp only [Bool.and_eq_true,decide_eq_true_eq]
 constructor
 . rintro ⟨h1,h2,h3,h4⟩
   exact ⟨h1,h2,by omega,h4⟩
 rintro ⟨h1,h2,h3,h4⟩;exact ⟨h1,h2,by omega,h4⟩
theorem Box.cells3 {w:World} {B:Nat} {T:TypeId} {v0 v1 v2:Value} (h:Box w B T #[v0,v1,v2]):w.cell? ⟨B,0,none⟩=some v0/\w.cell? ⟨B,1,none⟩=some v1/\w.cell? ⟨B,2,none⟩=some v2:=⟨h.cell 0,h.cell 1,h.cell 2⟩
theorem pK (w:World) (x y:Int) (a:Option Addr) (n cap:Nat) (zs:List Int) (hz:zs.length=n) (hr:aJ .i64 w a zs) (hn:n<=2097152):
 Calls Tryz.prog 161 #[.agg #[.int .i64 x,.int .i64 y,.slice a n cap]] w fun e w'=>e=.returned (.bool (jA x y zs))/\Below w.heap.size w w':=by
 have hA:=af w (.cells #[.int .i64 x,.int .i64 y,.slice a n cap] 162);have hr':=hr.below hA;subst hz;go_enter Tryz.func161,Tryz.ntmps161
 go_wp2_with fail
 refine (aE _ _ _ _).mono ?_
 rintro e w1 ⟨rfl,rfl⟩;cases hx:inB x 0 60000
 . go_wp2
   go_ret
   exact ⟨ah (recB_x hx).symm,hA⟩
 go_wp2_with fail
 refine (aE _ _ _ _).mono ?_
 rintro e w1 ⟨rfl,rfl⟩;cases hy:inB y 0 7
 . go_wp2
   go_ret
   exact ⟨ah (recB_y hy).symm,hA⟩
 go_wp2_with fail
 refine (aE _ _ _ _).mono ?_
 rintro e w1 ⟨rfl,rfl⟩;cases hl:inB (zs.length:Int) 2 4
 . go_wp2
   go_ret
   exact ⟨ah (recB_n hl).symm,hA⟩
 go_wp2_with fail
 refine (dX _ _ _ _ zs rfl hr' hn).mono ?_
 rintro e w1 ⟨rfl,rfl⟩;go_wp2
 go_ret
 exact ⟨ah (recB_w hx hy hl).symm,hA⟩
def lO (x y:Int) (zs:List Int):List Int:=if jA x y zs=true then 21322 :: x :: y :: (zs.length:Int) :: zs else []
theorem xN {x y:Int} {zs:List Int} (h:jA x y zs=true):lO x y zs=21322 :: x :: y :: (zs.length:Int) :: zs:=by unfold lO;rw [if_pos h]
theorem wu {x y:Int} {zs:List Int} (h:jA x y zs=false):lO x y zs=[]:=by unfold lO;rw [if_neg (by simp [h])]
theorem oo (w:World) (x y:Int) (a:Option Addr) (n cap:Nat) (zs:List Int) (hz:zs.length=n) (hr:aJ .i64 w a zs) (hn:n<=2097152):
 Calls Tryz.prog 156 #[.agg #[.int .i64 x,.int .i64 y,.slice a n cap]] w fun e w'=>∃a l c,e=.returned (.slice a l c)/\aD.Own w' w.heap.size w'.heap.size [.slice a l c] (lO x y zs)/\Below w.heap.size w w':=by
 have hA:=af w (.cells #[.int .i64 x,.int .i64 y,.slice a n cap] 162);have X:=Box.new w 162 #[.int .i64 x,.int .i64 y,.slice a n cap];have hr':=hr.below hA;obtain ⟨k0,k1,k2⟩:=X.cells3;have zA:=X.lt;go_enter Tryz.func156,Tryz.ntmps156
 go_wp2_with fail
 generalize w.alloc (.cells #[.int .i64 x,.int .i64 y,.slice a n cap] 162)=W at hA X k0 k1 k2 zA hr' ⊢;refine (pK _ _ _ _ _ _ zs hz hr' hn).mono ?_
 rintro e w1 ⟨rfl,b1⟩;have X1:=X.below b1 zA;have B1:=Below.andThen hA b1;have r1:=hr'.below b1;clear k0 k1 k2 X b1 hA zA hr' hr;obtain ⟨k0,k1,k2⟩:=X1.cells3;by_cases hx:jA x y zs=true
 . have HX:=aa (xN hx)
   obtain ⟨_,_,⟨hn2,hn4⟩,_⟩:=xM.1 hx;rcases r1.cases with h0|⟨b,off,rfl,hb,_⟩
   . omega
   have hB2:=af w1 (.cells #[.int .i64 21322,.int .i64 x,.int .i64 y,.int .i64 n] 3);have k2':=(hB2.cell (p:=⟨w.heap.size,2,none⟩) X1.lt).trans k2;have r2:=r1.below hB2;have hO:bk .i64 3 (w1.alloc (.cells #[.int .i64 21322,.int .i64 x,.int .i64 y,.int .i64 n] 3)) w1.heap.size (.slice (some ⟨w1.heap.size,0,none⟩) 4 4) [21322,x,y,n]:=bk.lit .i64 3 w1 [21322,x,y,n] 4 _ rfl rfl (by unfold maxLen;omega);obtain ⟨i0,hi,hz0,hz1,hz2⟩:=info_parts Tryz.info3;go_wp2_with (at_builtin;refine dt .i64 rfl _ _ 42 rfl w1.heap.size 3 i0 (.int .i64 0) 8 Tryz.underlying42 hi hz0 hz1 hz2 rfl _ [21322,x,y,(n:Int)] rfl hO ⟨b,off,none⟩ n cap zs rfl hz r2 (by unfold maxLen;simp;omega) (by simp;omega) (by simp) ?_;intro v' w2 ho2 hb2;obtain ⟨a1,c1,hv1,_⟩:=ho2.shape;rw [show ([21322,x,y,(n:Int)]++zs).length=n+4 by simp;omega] at hv1;subst hv1)
   go_ret
   refine ⟨_,_,_,rfl,?_,B1.trans ((hB2.trans hb2).mono B1.size)⟩
   rw [HX.out,hz];exact (aS ho2).widen B1.size (Nat.le_refl _)
 have hx':jA x y zs=false:=by simpa using hx
 have HX:=aa (wu hx');go_wp2
 go_ret
 refine ⟨_,_,_,rfl,?_,B1.alloc B1.size _⟩
 rw [HX.out];exact (aS (bk.lit .i64 3 w1 [] 0 #[] rfl rfl (by unfold maxLen;omega))).widen B1.size (Nat.le_refl _)
def jl (t:Ty) (w:World) (vs:List Value) (ys:List t.D) (fs:List (List Nat)):Prop:=
 vs.length=ys.length*t.n/\fs.length=ys.length/\fs.flatten.Nodup/\∀i y,ys[i]?=some y->∃f,fs[i]?=some f/\t.ow w ((vs.drop (i*t.n)).take t.n) y f
theorem jl.lt {t:Ty} {w:World} {vs:List Value} {ys:List t.D} {fs:List (List Nat)} (h:jl t w vs ys fs):∀c∈fs.flatten,c<w.heap.size:=by
 intro c hc;obtain ⟨_,h7,_,h8⟩:=h;obtain ⟨f',hf',hcf⟩:=List.mem_flatten.1 hc;obtain ⟨i,hi⟩:=List.mem_iff_getElem?.1 hf';have hil:i<ys.length:=by rw [←h7];exact (List.getElem?_eq_some_iff.1 hi).1
 obtain ⟨f2,hf2,ho2⟩:=h8 i _ (List.getElem?_eq_getElem hil);rw [hi] at hf2;simp at hf2
 subst hf2;exact t.rdLt (t.owRd ho2) c hcf
theorem tt {t:Ty} {E:TypeId} {w:World} {lo b cap:Nat} {d:List t.D} {fp:List Nat} (h:(ce t E).Mine w [.slice (some ⟨b,0,none⟩) d.length cap] d fp) (hlo:∀b∈fp,lo<=b):
 ∃xs,w.ownsRow lo E t.n (.slice (some ⟨b,0,none⟩) d.length cap) d.length xs/\∀w' v' vs ys fs,jl t w vs ys fs->(∀b∈fp,b∉fs.flatten)->w'.ownsRow lo E t.n v' (d.length+ys.length) (xs++vs)->w.grownBy w' (some b)->(v'.ownBlock=some b∨v'.ownBlock=some w.heap.size) ->
  ∃fp',(ce t E).Mine w' [v'] (d++ys) fp'/\(∀c∈fp',c∈fp∨c∈fs.flatten∨(c=w.heap.size/\c<w'.heap.size))/\aA fp w w':=by
 obtain ⟨h,hn⟩:=h;rcases h with ⟨h1,_⟩|⟨b',cap',cur,fps,h1,h2,h3,h4,h5,rfl,h7,h8⟩
 . simp at h1
 simp only [List.cons.injEq,Value.slice.injEq,Option.some.injEq,Addr.mk.injEq,and_true] at h1
 obtain ⟨rfl,_,rfl⟩:=h1;have hle:d.length*t.n<=cap*t.n:=Nat.mul_le_mul_right _ h2;have hxl:(cur.toList.take (d.length*t.n)).length=d.length*t.n:=by
  have hcl:cur.toList.length=cap*t.n:=by rw [Array.length_toList];exact h5
  rw [List.length_take,hcl];omega
 refine ⟨cur.toList.take (d.length*t.n),⟨hxl,.inr ⟨b,cap,cur,rfl,hlo b List.mem_cons_self,h4,h2,h3,h5,rfl⟩⟩,fun w' v' vs ys fs hx hdis ho hg hat=>?_⟩
 have hel:=hx.lt;obtain ⟨e1,e2,e3,e4⟩:=hx;rw [List.nodup_cons] at hn;obtain ⟨hbf,hnf⟩:=hn;have hfplt:∀c∈fps.flatten,c<w.heap.size:=by
  intro c hc;obtain ⟨f',hf',hcf⟩:=List.mem_flatten.1 hc;obtain ⟨i,hi⟩:=List.mem_iff_getElem?.1 hf';have hil:i<d.length:=by rw [←h7];exact (List.getElem?_eq_some_iff.1 hi).1
  obtain ⟨f2,hf2,ho2⟩:=h8 i _ (List.getElem?_eq_getElem hil);rw [hi] at hf2;simp at hf2
  subst hf2;exact t.rdLt (t.owRd ho2) c hcf
 have hbx:b∉fs.flatten:=hdis b List.mem_cons_self;have hkeep:∀c,c<w.heap.size->c≠b->w'.heap[c]?=w.heap[c]?:=fun c hc hne=>hg.block c hc (by simpa using hne);rcases ho.2 with ⟨hv0,h0⟩|⟨g,cap',cur',hv',hb,hg',hnc,hcm,hcs,htake⟩
 . have hd0:d=[]:=List.eq_nil_of_length_eq_zero (by omega)
   have hy0:ys=[]:=List.eq_nil_of_length_eq_zero (by omega);subst hd0 hy0 hv0;exact ⟨[],⟨.inl ⟨rfl,rfl,rfl⟩,List.nodup_nil⟩,by simp,hg.os,hg.tape,hg.output,hg.size,fun k hk hf=>hkeep k hk (fun e=>hf (by rw [e];exact List.mem_cons_self))⟩
 have hgs:g=b∨g=w.heap.size:=by
  rw [hv'] at hat;simpa [Value.ownBlock] using hat
 have hgl:g<w'.heap.size:=(Array.getElem?_eq_some_iff.1 hg').1;subst hv';have hfl:(fps++fs).flatten=fps.flatten++fs.flatten:=by simp
 have hcell:∀k,k<d.length*t.n+ys.length*t.n->cur'.toList[k]?=(cur.toList.take (d.length*t.n)++vs)[k]?:=fun k hk=>by
  have:=congrArg (fun l=>l[k]?) htake;simp only [List.getElem?_take] at this
  rw [if_pos (by rw [Nat.add_mul];omega)] at this;exact this
 have hseg:∀i,i<d.length->(cur'.toList.drop (i*t.n)).take t.n=(cur.toList.drop (i*t.n)).take t.n:=by
  intro i hi;have hmul:(i+1)*t.n<=d.length*t.n:=Nat.mul_le_mul_right _ hi;rw [Nat.add_mul,Nat.one_mul] at hmul;apply List.ext_getElem?
  intro k;rw [List.getElem?_take,List.getElem?_take];by_cases hk:k<t.n
  . rw [if_pos hk,if_pos hk,List.getElem?_drop,List.getElem?_drop,hcell _ (by omega),List.getElem?_append_left (by rw [hxl];omega),List.getElem?_take,if_pos (by omega)]
  rw [if_neg hk,if_neg hk]
 have hnew:∀i,i<ys.length->(cur'.toList.drop ((d.length+i)*t.n)).take t.n=(vs.drop (i*t.n)).take t.n:=by
  intro i hi;have hmul:(i+1)*t.n<=ys.length*t.n:=Nat.mul_le_mul_right _ hi;rw [Nat.add_mul,Nat.one_mul] at hmul;apply List.ext_getElem?
  intro k;rw [List.getElem?_take,List.getElem?_take];by_cases hk:k<t.n
  . rw [if_pos hk,if_pos hk,List.getElem?_drop,List.getElem?_drop,Nat.add_mul,hcell _ (by omega),List.getElem?_append_right (by rw [hxl];omega),hxl]
    congr 1
    omega
  rw [if_neg hk,if_neg hk]
 refine ⟨g :: (fps++fs).flatten,⟨.inr ⟨g,cap',cur',fps++fs,by simp,by simpa using hnc,hcm,hg',hcs,rfl,by simp [h7,e2],fun i y hy=>?_⟩,?_⟩,?_,hg.os,hg.tape,hg.output,hg.size,fun k hk hf=>hkeep k hk (fun e=>hf (by rw [e];exact List.mem_cons_self))⟩
 . by_cases hi:i<d.length
   . rw [List.getElem?_append_left hi] at hy
     obtain ⟨f2,hf2,ho2⟩:=h8 i y hy;refine ⟨f2,by rw [List.getElem?_append_left (by omega)];exact hf2,?_⟩
     rw [hseg i hi];refine t.owKept ho2 (fun c hc=>hkeep c (t.rdLt (t.owRd ho2) c hc) (fun e=>hbf ?_)) hg.size
     rw [←e];exact List.mem_flatten.2 ⟨f2,List.mem_of_getElem? hf2,hc⟩
   rw [List.getElem?_append_right (by omega)] at hy;have hil:=(List.getElem?_eq_some_iff.1 hy).1;obtain ⟨f2,hf2,ho2⟩:=e4 (i-d.length) y hy;refine ⟨f2,by rw [List.getElem?_append_right (by omega),h7];exact hf2,?_⟩
   have:=hnew (i-d.length) hil;rw [show d.length+(i-d.length)=i by omega] at this;rw [this];refine t.owKept ho2 (fun c hc=>?_) hg.size
   have hcm':c∈fs.flatten:=List.mem_flatten.2 ⟨f2,List.mem_of_getElem? hf2,hc⟩;exact hkeep c (hel c hcm') (fun e=>hbx (e▸hcm'))
 . rw [hfl,List.nodup_cons]
   refine ⟨fun hm=>?_,?_⟩
   . rcases List.mem_append.1 hm with hm|hm
     . rcases hgs with rfl|rfl
       . exact hbf hm
       have:=hfplt _ hm;omega
     rcases hgs with rfl|rfl
     . exact hbx hm
     have:=hel _ hm;omega
   rw [List.nodup_append];exact ⟨hnf,e3,fun a ha c hc e=>hdis a (List.mem_cons_of_mem _ ha) (e▸hc)⟩
 intro c hc;rw [hfl] at hc;rcases List.mem_cons.1 hc with rfl|hc
 . rcases hgs with rfl|hgs
   . exact .inl List.mem_cons_self
   exact .inr (.inr ⟨hgs,hgl⟩)
 rcases List.mem_append.1 hc with hc|hc
 . exact .inl (List.mem_cons_of_mem _ hc)
 exact .inr (.inl hc)
theorem qe {P:Program} {w:World} {ops:Array Oper} {o:Oper} {a:Act} {K:Act->World->Prop} {Q:Exit->Act->World->Prop} {G:Prop} (t:Ty) (hgd:o.guard=none) (s x:Operand) (T:TypeId)
 (ho:o.op=.call { callee:=.builtin .append,args:=#[s,x],argTypes:=#[T,T] })
 (E:TypeId) (i:TypeInfo) (z:Value) (bytes:Nat) (ht:P.underlying T=some (.slice E)) (hi:P.info? E=some i) (hz:i.zero=some z)
 (hsize:i.size=t.n) (hby:i.bytes=bytes) (hzs:z.cells.size=t.n) (hsz:0<t.n)
 (b cap:Nat) (d:List t.D) (fp:List Nat) (hs:a.eval s=.slice (some ⟨b,0,none⟩) d.length cap) (hown:(ce t E).Mine w [.slice (some ⟨b,0,none⟩) d.length cap] d fp)
 (ad:Addr) (c:Nat) (vs:List Value) (ys:List t.D) (fs:List (List Nat)) (hx:a.eval x=.slice (some ad) ys.length c) (hy:jl t w vs ys fs) (hdis:∀b∈fp,b∉fs.flatten) (hr:∀j u,vs[j]?=some u->w.cell? (ad.add j)=some u) (h1:∀u∈vs,u.oneCell'=true)
 (h63:d.length+ys.length<=maxLen) (hbytes:(d.length+ys.length)*bytes<=140737488355328)
 (h:∀g cap' w' fp',(ce t E).Mine w' [.slice (some ⟨g,0,none⟩) (d.length+ys.length) cap'] (d++ys) fp'->(∀b∈fp',b∈fp∨b∈fs.flatten∨(b=w.heap.size/\b<w'.heap.size))->aA fp w w'->K (a.put o.dst (.slice (some ⟨g,0,none⟩) (d.length+ys.length) cap')) w'):
 if Region.wanted o (yielded ops a.tmps)=true then Oper.wp P o a w K Q else G:=by
 obtain ⟨xs,hrow,hback⟩:=tt (lo:=0) hown (fun _ _=>Nat.zero_le _);have hw:Region.wanted o (yielded ops a.tmps)=true:=by simp [Region.wanted,hgd]
 rw [if_pos hw];obtain ⟨v',w',hr,k1,k2,k3,k4⟩:=run_append_own_at (P:=P) w 0 T o.type E i z t.n bytes ht hi hz hsize hby hzs hsz _ d.length xs hrow ad ys.length c vs hy.1 hr h1 h63 hbytes (Nat.zero_le _);obtain ⟨fp',m1,m2,m3⟩:=hback w' v' vs ys fs hy hdis k1 k2 k4;rcases k1.2 with ⟨hv0,_⟩|⟨g,cap',_,hv',_⟩
 . simp at k3
   exact absurd hv0 k3
 subst hv';unfold Oper.wp execOp;simp only [ho,resolve,invoke,builtin,Sem.run_bind,Sem.run_pure,Result.andThen_ok,List.map_toArray,List.map_cons,List.map_nil,hs,hx,hr]
 exact h g cap' w' fp' m1 m2 m3
theorem kY {l m:List (List Nat)} (h:l.Sublist m):l.flatten.Sublist m.flatten:=by
 induction h with
 | slnil=>exact .slnil
 | cons a _ ih=>rw [List.flatten_cons];exact ih.trans (List.sublist_append_right _ _)
 | cons_cons a _ ih=>rw [List.flatten_cons,List.flatten_cons];exact (List.Sublist.refl a).append ih
theorem tu {l:List (List Nat)} {k:Nat} (h:l.flatten.Nodup):∀b∈(l.take k).flatten,b∉(l.drop (k+1)).flatten:=by
 intro b hb hc;have h1:(l.take k++l.drop k).flatten.Nodup:=by rw [List.take_append_drop];exact h
 rw [List.flatten_append,List.nodup_append] at h1;refine h1.2.2 b hb b ?_ rfl
 have:(l.drop (k+1)).Sublist (l.drop k):=by rw [←List.drop_drop];exact List.drop_sublist _ _
 exact (kY this).subset hc
theorem xO {t:Ty} {E:TypeId} {w:World} {b cap:Nat} {d:List t.D} {fp:List Nat} (h:(ce t E).Mine w [.slice (some ⟨b,0,none⟩) d.length cap] d fp):
 ∃(cs:List Value) (fps:List (List Nat)),fps.length=d.length/\fp=b :: fps.flatten/\cs.length=d.length*t.n/\(∀j u,cs[j]?=some u->w.cell? ⟨b,j,none⟩=some u) /\
  (∀i y,d[i]?=some y->∃f,fps[i]?=some f/\t.ow w ((cs.drop (i*t.n)).take t.n) y f)/\∀lo m,lo+m<=d.length->jl t w ((cs.drop (lo*t.n)).take (m*t.n)) ((d.drop lo).take m) ((fps.drop lo).take m):=by
 obtain ⟨h,hn⟩:=h;rcases h with ⟨h1,_⟩|⟨b',cap',cur,fps,h1,h2,h3,h4,h5,rfl,h7,h8⟩
 . simp at h1
 simp only [List.cons.injEq,Value.slice.injEq,Option.some.injEq,Addr.mk.injEq,and_true] at h1
 obtain ⟨rfl,_,rfl⟩:=h1;rw [List.nodup_cons] at hn;have hle:d.length*t.n<=cap*t.n:=Nat.mul_le_mul_right _ h2;have hcl:cur.toList.length=cap*t.n:=by rw [Array.length_toList];exact h5
 have hxl:(cur.toList.take (d.length*t.n)).length=d.length*t.n:=by
  rw [List.length_take,hcl];omega
 have hel:∀i y,d[i]?=some y->∃f,fps[i]?=some f/\t.ow w (((cur.toList.take (d.length*t.n)).drop (i*t.n)).take t.n) y f:=by
  intro i y hy;obtain ⟨f,hf,ho⟩:=h8 i y hy;have hi:=(List.getElem?_eq_some_iff.1 hy).1;have hmul:(i+1)*t.n<=d.length*t.n:=Nat.mul_le_mul_right _ hi;rw [Nat.add_mul,Nat.one_mul] at hmul;refine ⟨f,hf,?_⟩
  rw [List.drop_take,List.take_take,Nat.min_eq_left (by omega)];exact ho
 refine ⟨cur.toList.take (d.length*t.n),fps,h7,rfl,hxl,fun j u hu=>?_,hel,fun lo m hlm=>⟨?_,?_,?_,fun i y hy=>?_⟩⟩
 . rw [List.getElem?_take] at hu
   split at hu
   . rw [cell_of_row w b _ cur E (0,0) h4]
     simpa using hu
   simp at hu
 . have hmul:(lo+m)*t.n<=d.length*t.n:=Nat.mul_le_mul_right _ hlm
   rw [Nat.add_mul] at hmul;rw [List.length_take,List.length_drop,hxl,List.length_take,List.length_drop,Nat.min_eq_left (show m<=d.length-lo by omega)];omega
 . simp only [List.length_take,List.length_drop,h7]
 . refine hn.2.sublist ?_
   exact kY ((List.take_sublist _ _).trans (List.drop_sublist _ _))
 rw [List.getElem?_take] at hy;split at hy
 case isTrue him=>
  rw [List.getElem?_drop] at hy;obtain ⟨f,hf,ho⟩:=hel (lo+i) y hy;have hmul:(i+1)*t.n<=m*t.n:=Nat.mul_le_mul_right _ him;rw [Nat.add_mul,Nat.one_mul] at hmul;refine ⟨f,by rw [List.getElem?_take,if_pos him,List.getElem?_drop];exact hf,?_⟩
  rw [List.drop_take,List.take_take,Nat.min_eq_left (by omega),List.drop_drop,←Nat.add_mul];exact ho
 case isFalse=>simp at hy
end Go.Proofs.YtgjomldcnjjpaaaGreat

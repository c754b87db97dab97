/-
 The walk of the laws' look whether there are too many bytes to draw from; bytes are 0 to 255. No condition.
-/
import Derived.Test.YtgjomldcnjjpaaaGreatRowArrsSq1
import Derived.OrdersHeld
import Derived.RegionTactic

set_option maxRecDepth 100000
set_option maxHeartbeats 8000000
set_option linter.unusedSimpArgs false

namespace Go.Proofs.YtgjomldcnjjpaaaGreat
open Go.RowKit

def fY (x:Int):Int:=if 0<=x then 2+x % 4 else -1
def bE (x:Int):Int:=if 0<=x/\x<=1099511627776 then x+6 else -1
theorem nu (w:World) (x:Int):Calls Tryz.prog 155 #[.int .i64 x] w fun e w'=>e=.returned (.int .i64 (fY x))/\w'=w:=by
 by_cases h:0<=x
 . have e1:x.tmod 4=x % 4:=Int.tmod_eq_emod_of_nonneg h
   have e2:IntKind.i64.wrap (x % 4)=x % 4:=IntWalk.i64_in _ (by omega);have e3:IntKind.i64.wrap (2+x % 4)=2+x % 4:=IntWalk.i64_in _ (by omega);have hv:fY x=2+x % 4:=by unfold fY;rw [if_pos h]
   go_enter Tryz.func155,Tryz.ntmps155
   go_wp2
   go_ret
   exact ⟨aF (by first|(rw [hv];done)|rfl|omega),rfl⟩
 have hv:fY x=-1:=by unfold fY;rw [if_neg h]
 go_enter Tryz.func155,Tryz.ntmps155
 go_wp2
 go_ret
 exact ⟨aF (by first|(rw [hv];done)|rfl|omega),rfl⟩
theorem dA (w:World) (x:Int):Calls Tryz.prog 60 #[.int .i64 x] w fun e w'=>e=.returned (.int .i64 (bE x))/\w'=w:=by
 by_cases h:0<=x/\x<=1099511627776
 . have e2:IntKind.i64.wrap (x+2)=x+2:=IntWalk.i64_in _ (by omega)
   have e4:IntKind.i64.wrap (x+2+4)=x+2+4:=IntWalk.i64_in _ (by omega);have e3:IntKind.i64.wrap (6+x)=6+x:=IntWalk.i64_in _ (by omega);have hv:bE x=x+6:=by unfold bE;rw [if_pos h]
   have hi:inB x 0 1099511627776=true:=by unfold inB;simp;omega
   go_enter Tryz.func60,Tryz.ntmps60
   go_wp2_with fail
   refine (cg _ _ _ _).mono ?_
   rintro e w1 ⟨rfl,rfl⟩;rw [hi];go_wp2
   go_ret
   exact ⟨aF (by rw [hv];omega),rfl⟩
 have hv:bE x=-1:=by unfold bE;rw [if_neg h]
 have hi:inB x 0 1099511627776=false:=by unfold inB;simp;omega
 go_enter Tryz.func60,Tryz.ntmps60
 go_wp2_with fail
 refine (cg _ _ _ _).mono ?_
 rintro e w1 ⟨rfl,rfl⟩;rw [hi];go_wp2
 go_ret
 exact ⟨aF (by first|(rw [hv];done)|rfl|omega),rfl⟩
theorem cF (w:World) (x:Int):Calls Tryz.prog 45 #[.int .i64 x] w fun e w'=>e=.returned (.int .i64 (bE x))/\w'=w:=by
 by_cases h:0<=x/\x<=1099511627776
 . have e2:IntKind.i64.wrap (x+2)=x+2:=IntWalk.i64_in _ (by omega)
   have e4:IntKind.i64.wrap (x+2+4)=x+2+4:=IntWalk.i64_in _ (by omega);have e3:IntKind.i64.wrap (6+x)=6+x:=IntWalk.i64_in _ (by omega);have hv:bE x=x+6:=by unfold bE;rw [if_pos h]
   have hi:inB x 0 1099511627776=true:=by unfold inB;simp;omega
   go_enter Tryz.func45,Tryz.ntmps45
   go_wp2_with fail
   refine (aE _ _ _ _).mono ?_
   rintro e w1 ⟨rfl,rfl⟩;rw [hi];go_wp2
   go_ret
   exact ⟨aF (by rw [hv];omega),rfl⟩
 have hv:bE x=-1:=by unfold bE;rw [if_neg h]
 have hi:inB x 0 1099511627776=false:=by unfold inB;simp;omega
 go_enter Tryz.func45,Tryz.ntmps45
 go_wp2_with fail
 refine (aE _ _ _ _).mono ?_
 rintro e w1 ⟨rfl,rfl⟩;rw [hi];go_wp2
 go_ret
 exact ⟨aF (by first|(rw [hv];done)|rfl|omega),rfl⟩
section
variable {P:Program} {ops:Array Oper} {Q:Exit->Act->World->Prop} {S:World->Prop}
theorem wJ {i i':Nat} {o o':Oper} {fuel:Nat} {l:Array Bool} {a:Act} {w:World} {tl tl':List Oper} (hr:Region.ready .any ops l=[i,i']) (ho:ops.toList.drop i=o :: tl) (ho':ops.toList.drop i'=o' :: tl') (hw:Region.wanted o (yielded ops a.tmps)=true) (hw':Region.wanted o' (yielded ops a.tmps)=true)
 (h:∀K':Act->World->Prop,Shut (∀a w,S w->(S w->wpAnyH P .any ops Q S fuel (l.setIfInBounds i true) a w)->K' a w)->Oper.wp P o a w K' Q)
 (h':∀K':Act->World->Prop,Shut (∀a w,S w->(S w->wpAnyH P .any ops Q S fuel (l.setIfInBounds i' true) a w)->K' a w)->Oper.wp P o' a w K' Q):wpAnyH P .any ops Q S (fuel+1) l a w:=
 wpAnyH_ready hr (by simp) (AllReadyH.cons (il ho) (fun K' hK=>by rw [if_pos hw];exact h K' hK) (AllReadyH.cons (il ho') (fun K' hK=>by rw [if_pos hw'];exact h' K' hK) AllReadyH.nil))
end
def Cur (w:World) (g:Nat) (a:Option Addr) (lb cb:Nat):Prop:=
 ∃(i:Nat) (h:Int),i<=lb/\w.heap[g]?=some (.cells #[.slice a lb cb,.int .i64 i,.int .i64 h] 84 (0,0))
theorem Cur.lt {w:World} {g lb cb:Nat} {a:Option Addr} (h:Cur w g a lb cb):g<w.heap.size:=by
 obtain ⟨_,_,_,hg⟩:=h;exact (Array.getElem?_eq_some_iff.1 hg).1
theorem Cur.but {w w':World} {g lb cb l h':Nat} {a:Option Addr} (h:Cur w g a lb cb) (hb:But l h' w w') (hd:g<l∨h'<=g):Cur w' g a lb cb:=by
 have hlt:=h.lt;obtain ⟨i,x,hi,hg⟩:=h;exact ⟨i,x,hi,by rw [hb.block g hlt hd];exact hg⟩
theorem Cur.below {w w':World} {g lb cb:Nat} {a:Option Addr} (h:Cur w g a lb cb) (hb:Below w.heap.size w w'):Cur w' g a lb cb:=by
 have hlt:=h.lt;obtain ⟨i,x,hi,hg⟩:=h;exact ⟨i,x,hi,by rw [hb.block g hlt];exact hg⟩
theorem iR (n:Int):bits .and .i64 n 255=n % 256:=by
 have h255:(BitVec.ofInt 64 255).toNat=2 ^ 8-1:=by decide
 have key:(BitVec.ofInt 64 n &&& BitVec.ofInt 64 255).toNat=(n % ((2 ^ 64:Nat):Int)).toNat % 2 ^ 8:=by
  rw [BitVec.toNat_and,BitVec.toNat_ofInt,h255,Nat.and_two_pow_sub_one_eq_mod]
 show IntKind.i64.wrap ((BitVec.ofInt 64 n &&& BitVec.ofInt 64 255).toNat:Nat)=n % 256
 rw [key,IntKind.wrap_i64];omega
theorem vg {w:World} {g lb cb i:Nat} {a:Option Addr} {h:Int} (hi:i<=lb) (hg:w.heap[g]?=some (.cells #[.slice a lb cb,.int .i64 i,.int .i64 h] 84 (0,0))) (h':Int) (n m:Nat):
 Cur (((w.setCell ⟨g,2,none⟩ (.int .i64 h')).drewN n).drewN m) g a lb cb:=⟨i,h',hi,heap_setCell_same w g 2 _ _ _ hg⟩
theorem wN {w:World} {g lb cb i:Nat} {a:Option Addr} {h:Int} (hi:i<lb) (hg:w.heap[g]?=some (.cells #[.slice a lb cb,.int .i64 i,.int .i64 h] 84 (0,0))) (h':Int) (n:Nat):
 Cur (((w.setCell ⟨g,2,none⟩ (.int .i64 h')).drewN n).setCell ⟨g,1,none⟩ (.int .i64 ((i:Int)+1))) g a lb cb:=by
 have h1:(((w.setCell ⟨g,2,none⟩ (.int .i64 h')).drewN n)).heap[g]?=some (.cells #[.slice a lb cb,.int .i64 i,.int .i64 h'] 84 (0,0)):=heap_setCell_same w g 2 _ _ _ hg;exact ⟨i+1,h',by omega,heap_setCell_same _ g 1 _ _ _ h1⟩
theorem tC (w:World) (g:Nat) (a:Option Addr) (lb cb:Nat) (zs:List Int) (hc:Cur w g a lb cb) (hz:zs.length=lb) (hr:aJ .u8 w a zs) (hby:∀n∈zs,0<=n/\n<=255) (hlb:lb<=2097152) (ha:0<lb->∀x,a=some x->x.block<g):
 Calls Tryz.prog 82 #[.pointer (some ⟨g,0,none⟩)] w fun e w'=>∃x:Int,e=.returned (.int .i64 x)/\0<=x/\x<=255/\Cur w' g a lb cb/\But g (g+1) w w':=by
 obtain ⟨i,h,hi,hg⟩:=hc;have hc0:w.cell? ⟨g,0,none⟩=some (.slice a lb cb):=by rw [cell_of_row w g 0 _ _ _ hg];rfl
 have hc1:w.cell? ⟨g,1,none⟩=some (.int .i64 i):=by rw [cell_of_row w g 1 _ _ _ hg];rfl
 have hc2:w.cell? ⟨g,2,none⟩=some (.int .i64 h):=by rw [cell_of_row w g 2 _ _ _ hg];rfl
 have hf1:w.frozen? ⟨g,1,none⟩=false:=frozen_of_row w g 1 _ _ hg;have hf2:w.frozen? ⟨g,2,none⟩=false:=frozen_of_row w g 2 _ _ hg;have HG:Hid (w.heap[g]?=some (.cells #[.slice a lb cb,.int .i64 i,.int .i64 h] 84 (0,0))):=hg;clear hg;by_cases hlt:i<lb
 . rcases hr.cases with h0|⟨b,off,rfl,hbl,hcz⟩
   . omega
   have hbg:b<g:=ha (by omega) _ rfl;have hcx:=hcz i (by omega);have hbx:=xg hby i;generalize zs.getD i 0=y at hcx hbx;clear hcz;go_enter Tryz.func82,Tryz.ntmps82
   go_wp2
   go_quiet (fail)
   go_wp2
   go_quiet (fail)
   go_wp2
   go_quiet (fail)
   go_wp2
   go_ret
   exact ⟨_,rfl,by rw [iR];omega,by rw [iR];omega,wN hlt HG.out _ _,((But.setCell (Nat.le_refl _) (by omega) _).drewN _).trans (But.setCell (Nat.le_refl _) (by omega) _)⟩
 go_enter Tryz.func82,Tryz.ntmps82
 go_wp2
 go_quiet (fail)
 go_wp2
 go_quiet (fail)
 go_wp2
 go_ret
 exact ⟨_,rfl,by rw [iR];omega,by rw [iR];omega,vg hi HG.out _ _ _,((But.setCell (Nat.le_refl _) (by omega) _).drewN _).drewN _⟩
theorem lT (w:World) (a:Option Addr) (lb cb:Nat) (zs:List Int) (hz:zs.length=lb) (hr:aJ .u8 w a zs) (hlb:lb<=2097152):
 Calls Tryz.prog 21 #[.slice a lb cb] w fun e w'=>e=.returned (.pointer (some ⟨w.heap.size,0,none⟩))/\Cur w' w.heap.size a lb cb/\Below w.heap.size w w':=by
 go_enter Tryz.func21,Tryz.ntmps21
 go_wp2
 go_loop [3,4] (fun h i=>∃(j:Nat) (x:Int),j<=lb/\i=.int .i64 j/\h=.int .i64 x) (fun _ i=>lb-(intOf i).toNat)
 case atStart=>exact ⟨0,_,Nat.zero_le _,rfl,rfl⟩
 obtain ⟨j,x,hj,rfl,rfl⟩:=hrel;by_cases hlt:j<lb
 . by_cases h4:(j:Int)<4000
   . rcases hr.cases with h0|⟨b,off,rfl,hbl,hc⟩
     . omega
     have hc1:=hc j (by omega);generalize zs.getD j 0=y at hc1;clear hc;go_wp2
     go_round
     case rel=>exact ⟨j+1,_,by omega,by go_num,rfl⟩
     case measure=>simp [intOf];omega
   go_wp2
   go_ret
   exact ⟨rfl,⟨0,_,Nat.zero_le _,heap_alloc_new w _⟩,(Below.refl _ _).alloc (Nat.le_refl _) _⟩
 go_wp2
 go_ret
 exact ⟨rfl,⟨0,_,Nat.zero_le _,heap_alloc_new w _⟩,(Below.refl _ _).alloc (Nat.le_refl _) _⟩
theorem mK (w:World) (g:Nat) (a:Option Addr) (lb cb:Nat) (zs:List Int) (n:Int) (hc:Cur w g a lb cb) (hz:zs.length=lb) (hr:aJ .u8 w a zs) (hby:∀n∈zs,0<=n/\n<=255) (hlb:lb<=2097152) (ha:0<lb->∀x,a=some x->x.block<g) (hn:0<=n) (hn':n<=256):
 Calls Tryz.prog 54 #[.pointer (some ⟨g,0,none⟩),.int .i64 n] w fun e w'=>∃x:Int,e=.returned (.int .i64 x)/\0<=x/\(x<n∨x=0)/\Cur w' g a lb cb/\But g (g+1) w w':=by
 by_cases h0:n=0
 . subst h0
   go_enter Tryz.func54,Tryz.ntmps54
   go_wp2
   go_ret
   exact ⟨_,rfl,by omega,by omega,hc,But.refl _ _ _⟩
 have h1:1<=n:=by omega
 go_enter Tryz.func54,Tryz.ntmps54
 go_wp2_with fail
 refine (tC _ g a lb cb zs hc hz hr hby hlb ha).mono ?_
 rintro e w1 ⟨x,rfl,hx0,hx1,hc1,hb1⟩;go_wp2
 go_ret
 exact ⟨_,rfl,Int.emod_nonneg _ (by omega),.inl (Int.emod_lt_of_pos _ (by omega)),hc1,hb1⟩
theorem vh (w:World) (g:Nat) (a:Option Addr) (lb cb:Nat) (zs:List Int) (la:Option Addr) (ll lc:Nat) (ls:List Int) (hc:Cur w g a lb cb) (hz:zs.length=lb) (hr:aJ .u8 w a zs) (hby:∀n∈zs,0<=n/\n<=255) (hlb:lb<=2097152) (ha:0<lb->∀x,a=some x->x.block<g)
 (hl:ls.length=ll) (hlr:aJ .i64 w la ls) (hla:∀x,la=some x->g+1<=x.block) (h1:1<=ll) (h2:ll<=256):
 Calls Tryz.prog 22 #[.pointer (some ⟨g,0,none⟩),.slice la ll lc] w fun e w'=>∃x:Int,e=.returned (.int .i64 x)/\x∈ls/\Cur w' g a lb cb/\But g (g+1) w w':=by
 rcases hlr.cases with h0|⟨b,off,rfl,hbl,hcs⟩
 . omega
 have hbg:g+1<=b:=hla _ rfl;go_enter Tryz.func22,Tryz.ntmps22
 go_wp2_with fail
 refine (mK _ g a lb cb zs _ hc hz hr hby hlb ha (by omega) (by omega)).mono ?_
 rintro e w1 ⟨x,rfl,hx0,hx1,hc1,hb1⟩;obtain ⟨x,rfl⟩:=Int.eq_ofNat_of_zero_le hx0;have hxl:x<ll:=by omega
 have hcx:w1.cell? ⟨b,off+x,none⟩=some (.int .i64 (ls.getD x 0)):=by
  rw [World.cell?_of_block (w:=w) (hb1.block b hbl (.inr hbg))];exact hcs x (by omega)
 have HM:Hid (ls.getD x 0∈ls):=by
  unfold Hid;rw [List.getD_eq_getElem?_getD,List.getElem?_eq_getElem (by omega)];exact List.getElem_mem _
 generalize ls.getD x 0=y at hcx HM;clear hcs;go_wp2
 go_ret
 exact ⟨_,rfl,HM.out,hc1,hb1⟩
theorem bk.but {k:IntKind} {E:TypeId} {w w':World} {lo l h':Nat} {v:Value} {zs:List Int} (h:bk k E w lo v zs) (hb:But l h' w w') (hd:h'<=lo):bk k E w' lo v zs:=(h.own.but hb (.inr hd)).1
theorem aJ.but {k:IntKind} {w w':World} {a:Option Addr} {zs:List Int} {g h':Nat} (h:aJ k w a zs) (hb:But g h' w w') (ha:0<zs.length->∀x,a=some x->x.block<g):aJ k w' a zs:=by
 by_cases h0:zs.length=0
 . exact .inl (List.eq_nil_of_length_eq_zero h0)
 rcases h with h|⟨b,off,rfl,hlt,hc⟩
 . exact .inl h
 have hx:b<g:=ha (by omega) _ rfl;refine .inr ⟨b,off,rfl,Nat.lt_of_lt_of_le hlt hb.size,fun i hi=>?_⟩
 rw [World.cell?_of_block (w:=w) (hb.block b hlt (.inl hx))];exact hc i hi
theorem Cur.lower {w w':World} {g lb cb B:Nat} {a:Option Addr} (h:Cur w g a lb cb) (hb:Below B w w') (hB:g<B):Cur w' g a lb cb:=by
 obtain ⟨i,x,hi,hg⟩:=h;exact ⟨i,x,hi,by rw [hb.block g hB];exact hg⟩
theorem aJ.lower {k:IntKind} {w w':World} {a:Option Addr} {zs:List Int} {B:Nat} (h:aJ k w a zs) (hb:Below B w w') (ha:0<zs.length->∀x,a=some x->x.block<B):aJ k w' a zs:=by
 by_cases h0:zs.length=0
 . exact .inl (List.eq_nil_of_length_eq_zero h0)
 exact h.old (ha (by omega)) hb
theorem aJ.ahead {k:IntKind} {w:World} {a:Option Addr} {zs:List Int} {n:Nat} (h:aJ k w a zs) (hn:zs.length=n):0<n->∀x,a=some x->x.block<w.heap.size:=by
 intro h0 x hx;rcases h.cases with h1|⟨b,off,rfl,hlt,_⟩
 . omega
 simp at hx
 subst hx;exact hlt
structure br (w:World) (g:Nat) (a:Option Addr) (lb cb:Nat) (zs:List Int):Prop where
 cur:Cur w g a lb cb
 len:zs.length=lb
 reads:aJ .u8 w a zs
 bytes:∀n∈zs,0<=n/\n<=255
 few:lb<=2097152
 ahead:0<lb->∀x,a=some x->x.block<g
theorem br.lt {w:World} {g lb cb:Nat} {a:Option Addr} {zs:List Int} (h:br w g a lb cb zs):g<w.heap.size:=h.cur.lt
theorem br.next {w w':World} {g lb cb:Nat} {a:Option Addr} {zs:List Int} (h:br w g a lb cb zs) (hc:Cur w' g a lb cb) (hb:But g (g+1) w w'):br w' g a lb cb zs:=
 ⟨hc,h.len,h.reads.but hb (by rw [h.len];exact h.ahead),h.bytes,h.few,h.ahead⟩
theorem br.lower {w w':World} {g lb cb B:Nat} {a:Option Addr} {zs:List Int} (h:br w g a lb cb zs) (hb:Below B w w') (hB:g<B):br w' g a lb cb zs:=
 ⟨h.cur.lower hb hB,h.len,h.reads.lower hb (by rw [h.len];exact fun h0 x hx=>Nat.lt_trans (h.ahead h0 x hx) hB),h.bytes,h.few,h.ahead⟩
theorem br.alloc {w:World} {g lb cb:Nat} {a:Option Addr} {zs:List Int} (h:br w g a lb cb zs) (o:Obj):br (w.alloc o) g a lb cb zs:=h.lower ((Below.refl _ _).alloc (Nat.le_refl _) o) h.lt
theorem bX {w:World} {g lb cb:Nat} {a:Option Addr} {zs:List Int} (h:br w g a lb cb zs) (n:Int) (hn:0<=n) (hn':n<=256):
 Calls Tryz.prog 54 #[.pointer (some ⟨g,0,none⟩),.int .i64 n] w fun e w'=>∃x:Int,e=.returned (.int .i64 x)/\0<=x/\(x<n∨x=0)/\br w' g a lb cb zs/\But g (g+1) w w':=
 (mK w g a lb cb zs n h.cur h.len h.reads h.bytes h.few h.ahead hn hn').mono fun _ _ ⟨x,he,h0,h1,hc,hb⟩=>⟨x,he,h0,h1,h.next hc hb,hb⟩
theorem lg {w:World} {g lb cb:Nat} {a:Option Addr} {zs:List Int} (h:br w g a lb cb zs) (la:Option Addr) (ll lc:Nat) (ls:List Int) (hl:ls.length=ll) (hlr:aJ .i64 w la ls) (hla:∀x,la=some x->g+1<=x.block) (h1:1<=ll) (h2:ll<=256):
 Calls Tryz.prog 22 #[.pointer (some ⟨g,0,none⟩),.slice la ll lc] w fun e w'=>∃x:Int,e=.returned (.int .i64 x)/\x∈ls/\br w' g a lb cb zs/\But g (g+1) w w':=
 (vh w g a lb cb zs la ll lc ls h.cur h.len h.reads h.bytes h.few h.ahead hl hlr hla h1 h2).mono fun _ _ ⟨x,he,h0,hc,hb⟩=>⟨x,he,h0,h.next hc hb,hb⟩
theorem gV {w:World} {g lb cb:Nat} {a:Option Addr} {zs:List Int} (h:br w g a lb cb zs):
 Calls Tryz.prog 96 #[.pointer (some ⟨g,0,none⟩)] w fun e w'=>∃x:Int,e=.returned (.int .i64 x)/\isW x=true/\br w' g a lb cb zs/\But g (g+1) w w':=by
 have hg:=h.lt;go_enter Tryz.func96,Tryz.ntmps96
 go_wp2_with fail
 refine (lg (h.alloc _) _ 8 _ [0,1,2,7,255,256,4660,65535] rfl (aJ.new _ _ _ _ _ rfl) ?hx (by omega) (by omega)).mono ?_
 case hx=>intro x hx;simp at hx;subst hx;exact hg
 rintro e w1 ⟨x,rfl,hx,hd1,hb1⟩;have hw:isW x=true:=by
  simp at hx
  rcases hx with rfl|rfl|rfl|rfl|rfl|rfl|rfl|rfl<;>rfl
 have hB:=((But.refl g (g+1) w).alloc _).trans hb1;clear hb1 hx;go_wp2
 go_ret
 exact ⟨_,rfl,hw,hd1,hB⟩
theorem lU {w:World} {g lb cb:Nat} {a:Option Addr} {zs:List Int} (h:br w g a lb cb zs):
 Calls Tryz.prog 65 #[.pointer (some ⟨g,0,none⟩)] w fun e w'=>∃(v:Value) (xs:List Int),e=.returned v/\xs.length<=4/\dg xs=true/\bk .i64 3 w' w.heap.size v xs/\br w' g a lb cb zs/\But g (g+1) w w':=by
 obtain ⟨i0,hi,hz0,hz1,hz2⟩:=info_parts Tryz.info3;have hown0:bk .i64 3 (w.alloc (.cells #[] 3)) w.heap.size (.slice (some ⟨w.heap.size,0,none⟩) 0 0) []:=bk.lit .i64 3 w [] 0 #[] rfl rfl (by unfold maxLen;omega);have hg:=h.lt;go_enter Tryz.func65,Tryz.ntmps65
 go_wp2_with fail
 refine (bX (h.alloc _) 5 (by omega) (by omega)).mono ?_
 rintro e w1 ⟨n,rfl,hn0,hn1,hd1,hb1⟩;have ho1:=hown0.but hb1 (by omega);have hB1:=((But.refl g (g+1) w).alloc _).trans hb1;obtain ⟨n,rfl⟩:=Int.eq_ofNat_of_zero_le hn0;have hn4:n<=4:=by omega
 clear hb1 hown0 hn0 hn1;go_wp2
 go_loopw [3,4] (fun o i wr=>∃(j:Nat) (xs:List Int),xs.length+j<=4/\i=.int .i64 j/\dg xs=true/\bk .i64 3 wr w.heap.size o xs/\br wr g a lb cb zs/\But g (g+1) w wr) (fun _ i _=>(intOf i).toNat)
 case atStart=>exact ⟨n,[],by simpa using hn4,rfl,rfl,ho1,hd1,hB1⟩
 clear ho1 hd1 hB1;obtain ⟨j,xs,hj,rfl,hxs,ho,hd,hb⟩:=hrel;by_cases hlt:0<j
 . go_wp2_with fail
   refine (gV hd).mono ?_
   rintro e w2 ⟨x,rfl,hx,hd2,hb2⟩;have ho2:=ho.but hb2 (by omega);have hB2:=hb.trans hb2;have hsz:=hB2.size;clear hb2 ho hd hb;go_wp2_with (at_builtin;refine dt .i64 (by rfl) _ _ 42 (by rfl) w.heap.size 3 i0 _ 8 Tryz.underlying42 hi hz0 hz1 hz2 rfl _ xs (by rfl) (ho2.alloc _) ⟨w2.heap.size,0,none⟩ 1 1 [x] (by rfl) rfl (aJ.new _ _ _ _ _ rfl) ?h1 ?h2 ?h3 ?_)
   case h1=>unfold maxLen;omega
   case h2=>omega
   case h3=>simp;omega
   intro v' w3 ho3 hb3;have hl3:(xs++[x]).length+(j-1)<=4:=by simp;omega
   have hxs3:dg (xs++[x])=true:=by unfold dg at *;simp [hxs,hx]
   have hd3:=(hd2.alloc (.cells #[.int .i64 x] 3)).lower hb3 hg;have hB3:=(hB2.alloc (.cells #[.int .i64 x] 3)).thenBelow hb3;clear hb3 ho2 hd2 hB2;go_wp2
   go_roundw
   case rel=>exact ⟨j-1,xs++[x],hl3,by go_num,hxs3,ho3,hd3,hB3⟩
   case measure=>simp [intOf];omega
 go_wp2
 go_ret
 exact ⟨_,xs,rfl,by omega,hxs,ho,hd,hb⟩
theorem lV {w:World} {g lb cb:Nat} {a:Option Addr} {zs:List Int} (h:br w g a lb cb zs):
 Calls Tryz.prog 64 #[.pointer (some ⟨g,0,none⟩)] w fun e w'=>∃(v:Value) (xs:List Int),e=.returned v/\xs.length<=13/\bk .i64 3 w' w.heap.size v xs/\br w' g a lb cb zs/\But g (g+1) w w':=by
 obtain ⟨i0,hi,hz0,hz1,hz2⟩:=info_parts Tryz.info3;have hg:=h.lt;go_enter Tryz.func64,Tryz.ntmps64
 go_wp2_with fail
 refine (lU h).mono ?_
 rintro e w1 ⟨v1,xs,rfl,hl1,_,ho1,hd1,hb1⟩;go_wp2_with fail
 refine (bX hd1 10 (by omega) (by omega)).mono ?_
 rintro e w2 ⟨n,rfl,hn0,hn1,hd2,hb2⟩;have ho2:=ho1.but hb2 (by omega);have hB2:=hb1.trans hb2;have hsz:=hB2.size;clear ho1 hd1 hb1 hb2;by_cases e0:n=0
 . subst e0
   go_wp2_with fail
   refine (lg (hd2.alloc _) _ 2 _ [-1,65536] rfl (aJ.new _ _ _ _ _ rfl) ?hx (by omega) (by omega)).mono ?_
   case hx=>intro x hx;simp at hx;subst hx;exact hd2.lt
   rintro e w3 ⟨x,rfl,_,hd3,hb3⟩;have ho3:=(ho2.alloc (.cells #[.int .i64 (-1),.int .i64 65536] 3)).but hb3 (by omega);have hB3:=(hB2.alloc _).trans hb3;have hsz3:=hB3.size;clear ho2 hd2 hB2 hb3;go_wp2_with (at_builtin;refine dt .i64 (by rfl) _ _ 42 (by rfl) w.heap.size 3 i0 _ 8 Tryz.underlying42 hi hz0 hz1 hz2 rfl _ xs (by rfl) (ho3.alloc _) ⟨w3.heap.size,0,none⟩ 1 1 [x] (by rfl) rfl (aJ.new _ _ _ _ _ rfl) ?h1 ?h2 ?h3 ?_)
   case h1=>unfold maxLen;omega
   case h2=>omega
   case h3=>simp;omega
   intro v' w4 ho4 hb4;have hl4:(xs++[x]).length<=13:=by simp;omega
   have hd4:=(hd3.alloc (.cells #[.int .i64 x] 3)).lower hb4 hg;have hB4:=(hB3.alloc (.cells #[.int .i64 x] 3)).thenBelow hb4;clear hb4 ho3 hd3 hB3;go_wp2
   go_ret
   exact ⟨_,_,rfl,hl4,ho4,hd4,hB4⟩
 by_cases e1:n=1
 . subst e1
   go_wp2_with fail
   refine (bX hd2 2 (by omega) (by omega)).mono ?_
   rintro e w3 ⟨m,rfl,hm0,hm1,hd3,hb3⟩;obtain ⟨m,rfl⟩:=Int.eq_ofNat_of_zero_le hm0;have hm:m<=1:=by omega
   have hB3:=hB2.trans hb3;have hsz3:=hB3.size;clear ho2 hd2 hB2 hb3 hm0 hm1;have hb3':i0.bytes*(12+m)<=281474976710656:=by rw [hz2];omega
   have hm3:12+m<=maxLen:=by unfold maxLen;omega
   go_wp2_with (at_make;refine wpList_make_full _ rfl _ _ 42 rfl w.heap.size 3 i0 (.int .i64 0) 1 Tryz.underlying42 hi hz0 hz1 _ _ _ _ (12+m) rfl rfl (by omega) (by omega) hb3' hm3 hsz3 ?_;intro w4 hown hgrow)
   have ho4:bk .i64 3 w4 w.heap.size (.slice (some ⟨w3.heap.size,0,none⟩) (12+m) (12+m)) (List.replicate (12+m) 0):=by
    rw [ie] at hown;unfold bk;rw [List.length_replicate];exact hown
   have hbb:Below w3.heap.size w3 w4:=(Below.refl _ _).grown hgrow (Nat.le_refl _) (by simp);have hl4:(List.replicate (12+m) (0:Int)).length<=13:=by rw [List.length_replicate];omega
   have hd4:=hd3.lower hbb hd3.lt;have hB4:=hB3.trans (But.of_below hbb);clear hbb hown hgrow hd3 hB3;go_wp2
   go_ret
   exact ⟨_,_,rfl,hl4,ho4,hd4,hB4⟩
 have e0':(n==0)=false:=by simpa using e0
 have e1':(n==1)=false:=by simpa using e1
 go_wp2
 go_ret
 exact ⟨_,_,rfl,by omega,ho2,hd2,hB2⟩
theorem Own.under {k:IntKind} {E:TypeId} {w w':World} {lo hi N:Nat} {v:Value} {zs:List Int} (h:Own k E w lo hi v zs) (hb:Below N w w') (hN:hi<=N):Own k E w' lo hi v zs:=by
 refine ⟨⟨h.1.1,?_⟩,h.2⟩
 rcases h.1.2 with h2|⟨g,cap,cur,hv,hbg,hg,r⟩
 . exact .inl h2
 have hhi:g<hi:=h.2 g (by rw [hv];rfl);exact .inr ⟨g,cap,cur,hv,hbg,by rw [hb.block g (by omega)];exact hg,r⟩
theorem oI {w:World} {g lb cb:Nat} {a:Option Addr} {zs:List Int} (h:br w g a lb cb zs) (n:Int) (hn:0<=n) (hn':n<=256):
 Calls Tryz.prog 113 #[.pointer (some ⟨g,0,none⟩),.int .i64 n] w fun e w'=>∃b:Bool,e=.returned (.bool b)/\br w' g a lb cb zs/\But g (g+1) w w':=by
 go_enter Tryz.func113,Tryz.ntmps113
 go_wp2_with fail
 refine (bX h n hn hn').mono ?_
 rintro e w1 ⟨x,rfl,_,_,D1,b1⟩;go_wp2
 go_ret
 exact ⟨_,rfl,D1,b1⟩
def bM (P:Program) (ops:Array Oper) (Q:Exit->Act->World->Prop) (S:World->Prop) (k:Nat):Nat->Array Bool->Act->World->Prop
 | 0,l,a,w=>Region.ready .any ops l=[]/\Q .normal a w
 | n+1,l,a,w=>(Region.ready .any ops l=[]->Q .normal a w)/\∀j∈Region.ready .any ops l,wpOp P ops Q j (fun a' w'=>(j≠k->l.getD k true=false->S w')/\bM P ops Q S k n (l.setIfInBounds j true) a' w') a w
section
variable {P:Program} {ops:Array Oper} {Q:Exit->Act->World->Prop} {S:World->Prop} {k:Nat}
theorem bM.any:∀(n:Nat) (l:Array Bool) (a:Act) (w:World),bM P ops Q S k n l a w->wpAny P .any ops Q n l a w
 | 0,_,_,_,h=>h
 | n+1,_,_,_,h=>⟨h.1,fun j hj=>wpOp_mono (fun a' w' h'=>bM.any n _ a' w' h'.2) (h.2 j hj)⟩
theorem bM.start {id:Nat} {a:Act} {w:World} (hm:P.follows .mixedOrders=true) (h:bM P ops Q S k ops.size (Array.replicate ops.size false) a w.drew):(Code.region id ops true).wp P Q a w:=
 wp_region_any hm (bM.any _ _ _ _ h)
theorem bM.first {i:Nat} {oi ok:Oper} {v:Value} (hi:ops[i]?=some oi) (hk:ops[k]?=some ok) (hki:∃e∈ok.after,Region.binds .any e=true/\e.on=i)
 (hsel:∀(j:Nat) (o:Oper) cs b,ops[j]?=some o->o.op≠.select cs b) (hQ:∀c a w,Q (.panic c) (a.put oi.dst v) w->Q (.panic c) a w) (n:Nat):
 ∀(l:Array Bool) (a:Act) (w:World),
  (∀j oj,ops[j]?=some oj->j≠i->l.getD j true=false->(∀e∈oj.after,Region.binds .any e=true->e.on≠i)->oi.apart ops oj=true) ->
  l.getD k true=false->i∈Region.ready .any ops l->YieldsIf P ops S oi v a->S w->bM P ops Q S k n (l.setIfInBounds i true) (a.put oi.dst v) w->bM P ops Q S k (n+1) l a w:=by
 induction n with
 | zero=>
  intro l a w _ hkl hr hy hS H;constructor
  . intro h
    rw [h] at hr;simp at hr
  intro j hj;by_cases hji:j=i
  . rw [hji]
    exact hy.wpOp hi hS ⟨fun _ _=>hS,H⟩
  have h2:=ready_mono (i:=i) hj hji;rw [H.1] at h2;simp at h2
 | succ n ih=>
  intro l a w hfree hkl hr hy hS H;constructor
  . intro h
    rw [h] at hr;simp at hr
  intro j hj;by_cases hji:j=i
  . rw [hji]
    exact hy.wpOp hi hS ⟨fun _ _=>hS,H⟩
  obtain ⟨hju,oj,hoj,hall⟩:=mem_ready.1 hj;have hiu:=(mem_ready.1 hr).1;have hno:∀e∈oj.after,Region.binds .any e=true->e.on≠i:=fun e he hb hon=>ni hiu (hon▸hall e he hb);have hjk:j≠k:=by
   intro hjk;rw [hjk,hk] at hoj;obtain ⟨e,he,hb,hon⟩:=hki;cases hoj;exact hno e he hb hon
  have h1:=H.2 j (ready_mono hj hji);have h2:=wpOp_putIf hoj (hfree j oj hoj hji hju hno) (fun cs b=>hsel i oi cs b hi) (fun cs b=>hsel j oj cs b hoj) hQ hy h1;refine wpOp_mono ?_ h2
  intro a' w' h3;have hik:i≠k:=by
   intro hik;obtain ⟨_,ok',hok',hall'⟩:=mem_ready.1 hr;rw [hik,hk] at hok';obtain ⟨e,he,hb,hon⟩:=hki;cases hok';exact ni hiu (hon▸hall' e he hb)
  have hS':=h3.2.1 hjk (by rw [getD_set_ne true hik];exact hkl);refine ⟨fun _ _=>hS',ih _ a' w' ?_ (by rw [getD_set_ne true hjk];exact hkl) (ready_mono hr (Ne.symm hji)) h3.1 hS' ?_⟩
  . intro m om hm hmi hun hnm
    refine hfree m om hm hmi ?_ hnm
    by_cases hjm:j=m
    . rw [←hjm]
      exact hju
    rw [getD_set_ne true hjm] at hun;exact hun
  rw [Array.setIfInBounds_comm _ _ hji];exact h3.2.2
theorem bM.take {i:Nat} {oi:Oper} {v:Value} {n:Nat} {l:Array Bool} {a:Act} {w:World} {tl:List Oper} (hi':ops.toList.drop i=oi :: tl)
 (hki:((ops[k]?).map fun o=>o.after.any fun e=>Region.binds .any e&&e.on==i)=some true) (hs:Region.noSelect ops=true) (hf:Region.free .any ops l i=true) (hr:(Region.ready .any ops l).contains i=true)
 (hQ:∀c a w,Q (.panic c) (a.put oi.dst v) w->Q (.panic c) a w) (hy:YieldsIf P ops S oi v a) (hS:S w) (h:bM P ops Q S k n (l.setIfInBounds i true) (a.put oi.dst v) w) (hkl:l.getD k true=false:=by kernel_rfl):bM P ops Q S k (n+1) l a w:=by
 have hi:=il hi';cases hk:ops[k]? with
 | none=>rw [hk] at hki;cases hki
 | some ok=>
  rw [hk] at hki;simp only [Option.map_some,Option.some.injEq,Array.any_eq_true',Bool.and_eq_true,beq_iff_eq] at hki
  exact bM.first hi hk hki (Region.noSelect_spec hs) hQ n l a w (Region.free_spec hi hf) hkl (by simpa using hr) hy hS h
theorem bM.one {i:Nat} {o:Oper} {n:Nat} {l:Array Bool} {a:Act} {w:World} {tl:List Oper} (hr:Region.ready .any ops l=[i]) (ho:ops.toList.drop i=o :: tl)
 (h:∀K':Act->World->Prop,Shut (∀a w,(i≠k->S w)->bM P ops Q S k n (l.setIfInBounds i true) a w->K' a w)->if Region.wanted o (yielded ops a.tmps)=true then Oper.wp P o a w K' Q else K' (a.put o.dst undef) w):bM P ops Q S k (n+1) l a w:=by
 constructor
 . intro h0
   rw [hr] at h0;simp at h0
 intro j hj;rw [hr] at hj;simp at hj
 rw [hj];exact wpOp_step (il ho) (fun K' hK=>h K' (fun a w hS hW=>hK a w ⟨fun h _=>hS h,hW⟩))
theorem bM.late {i:Nat} {o:Oper} {n:Nat} {l:Array Bool} {a:Act} {w:World} {tl:List Oper} (hr:Region.ready .any ops l=[i]) (ho:ops.toList.drop i=o :: tl) (hl:l.getD k true=true)
 (h:∀K':Act->World->Prop,Shut (∀a w,bM P ops Q S k n (l.setIfInBounds i true) a w->K' a w)->if Region.wanted o (yielded ops a.tmps)=true then Oper.wp P o a w K' Q else K' (a.put o.dst undef) w):bM P ops Q S k (n+1) l a w:=by
 constructor
 . intro h0
   rw [hr] at h0;simp at h0
 intro j hj;rw [hr] at hj;simp at hj
 rw [hj];exact wpOp_step (il ho) (fun K' hK=>h K' (fun a w hW=>hK a w ⟨fun _ h0=>(by rw [hl] at h0;cases h0),hW⟩))
theorem bM.two {i i':Nat} {o o':Oper} {n:Nat} {l:Array Bool} {a:Act} {w:World} {tl tl':List Oper} (hr:Region.ready .any ops l=[i,i']) (ho:ops.toList.drop i=o :: tl) (ho':ops.toList.drop i'=o' :: tl')
 (h:∀K':Act->World->Prop,Shut (∀a w,(i≠k->S w)->bM P ops Q S k n (l.setIfInBounds i true) a w->K' a w)->if Region.wanted o (yielded ops a.tmps)=true then Oper.wp P o a w K' Q else K' (a.put o.dst undef) w)
 (h':∀K':Act->World->Prop,Shut (∀a w,(i'≠k->S w)->bM P ops Q S k n (l.setIfInBounds i' true) a w->K' a w)->if Region.wanted o' (yielded ops a.tmps)=true then Oper.wp P o' a w K' Q else K' (a.put o'.dst undef) w):bM P ops Q S k (n+1) l a w:=by
 constructor
 . intro h0
   rw [hr] at h0;simp at h0
 intro j hj;rw [hr] at hj;simp only [List.mem_cons,List.not_mem_nil,or_false] at hj
 rcases hj with hj|hj
 . rw [hj]
   exact wpOp_step (il ho) (fun K' hK=>h K' (fun a w hS hW=>hK a w ⟨fun h _=>hS h,hW⟩))
 rw [hj];exact wpOp_step (il ho') (fun K' hK=>h' K' (fun a w hS hW=>hK a w ⟨fun h _=>hS h,hW⟩))
theorem bM.done {l:Array Bool} {a:Act} {w:World} (hr:Region.ready .any ops l=[]) (h:Q .normal a w):∀n,bM P ops Q S k n l a w
 | 0=>⟨hr,h⟩
 | _+1=>⟨fun _=>h,by rw [hr];simp⟩
end
section
variable {P:Program} {ops:Array Oper} {Q:Exit->Act->World->Prop} {I:Array Bool->Act->World->Prop}
end
theorem sI {zs:List Int} (h:∀n∈zs,(Lit.int .u8 n).wf=true):∀n∈zs,0<=n/\n<=255:=by
 intro n hn;have:=h n hn;simp [Lit.wf,IntKind.min,IntKind.max,IntKind.signed,IntKind.bits] at this
 omega
theorem ul (a:Option Addr) (len cap:Nat) (w:World):Calls Tryz.prog 4 #[.slice a len cap] w fun e w'=>e=.returned (.bool (decide (1048576<(len:Int))))/\w=w':=by
 go_enter Tryz.func4,Tryz.ntmps4
 go_wp2
 go_ret
 exact ⟨rfl,rfl⟩
end Go.Proofs.YtgjomldcnjjpaaaGreat

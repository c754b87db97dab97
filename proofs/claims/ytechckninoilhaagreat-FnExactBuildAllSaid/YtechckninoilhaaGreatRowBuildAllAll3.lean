/-
 The program's BuildAll walked. Condition: the array weighs at most 2000000.
-/
import Derived.Test.YtechckninoilhaaGreatRowBuildAllAll6
import Derived.Test.YtechckninoilhaaGreatRowBuildAllAll7
import Derived.Test.YtechckninoilhaaGreatRowBuildAllAll4
import Derived.Test.YtechckninoilhaaGreatRowBuildAllAll5
import Derived.Test.YtechckninoilhaaGreatRowBuildAllAll9
import Derived.Test.YtechckninoilhaaGreatRowBuildAllAll8
import Derived.Deep.Cut
import Derived.Shelf.Spec.SlicesGrow
import Derived.Test.YtechckninoilhaaGreatBox
import Derived.Test.YtechckninoilhaaGreatWalkIn
import Derived.Test.YtechckninoilhaaGreatHeld
import Derived.Laws.IdiomCopy
import Derived.Test.YtechckninoilhaaGreatGrow
import Derived.Test.YtechckninoilhaaGreatPut8
import Derived.Deep.Upon

set_option maxRecDepth 100000
set_option maxHeartbeats 8000000
set_option linter.unusedSimpArgs false

namespace Go.Proofs.YtechckninoilhaaGreat
open Go.RowKit

theorem nextCode_any (w : World) (E F G : TypeId) (x : ArrN) (am ad : Option Addr) (nm cm nd cd : Nat) (ms : List MemD) (ds : List (Int × List Int)) (h0 : (tMemS E F).Rd w [.slice am nm cm] ms) (h1 : (tWrS G).Rd w [.slice ad nd cd] ds) (hw : wtArr ms ds <= 2097152) :
 Calls Tryz.prog 93 #[.agg #[.int .i64 x.id, .int .i64 x.n, .int .i64 x.s, .slice am nm cm, .int .i64 x.lost, .int .i64 x.built, .int .i64 x.seq, .int .i64 x.tail, .int .i64 x.gen, .slice ad nd cd, .int .i64 x.fuse, .bool x.down, .bool x.broken]] w fun e w' => e = .returned (.int .i64 (nextK x ms ds)) /\ Below w.heap.size w w' := by
 have hA := new_below w (.cells #[.int .i64 x.id, .int .i64 x.n, .int .i64 x.s, .slice am nm cm, .int .i64 x.lost, .int .i64 x.built, .int .i64 x.seq, .int .i64 x.tail, .int .i64 x.gen, .slice ad nd cd, .int .i64 x.fuse, .bool x.down, .bool x.broken] 33)
 have X := Box.new w 33 #[.int .i64 x.id, .int .i64 x.n, .int .i64 x.s, .slice am nm cm, .int .i64 x.lost, .int .i64 x.built, .int .i64 x.seq, .int .i64 x.tail, .int .i64 x.gen, .slice ad nd cd, .int .i64 x.fuse, .bool x.down, .bool x.broken]
 have zX := X.lt
 obtain ⟨k0, k1, k2, k3, k4, k5, k6, k7, k8, k9, k10, k11, k12⟩ := X.cells13
 have r0 := h0.below hA
 have r1 := h1.below hA
 have HV : Hid (nextK x ms ds = if ask8 x ms ds = 0 then (if (lostT x ms && decide (x.built ≠ x.s)) = true then (if wordsOk6 x ms ds x.built = true then 0 else 5) else 2) else ask8 x ms ds) := rfl
 go_enter Tryz.func93, Tryz.ntmps93
 go_wp2_with fail
 generalize w.alloc (.cells #[.int .i64 x.id, .int .i64 x.n, .int .i64 x.s, .slice am nm cm, .int .i64 x.lost, .int .i64 x.built, .int .i64 x.seq, .int .i64 x.tail, .int .i64 x.gen, .slice ad nd cd, .int .i64 x.fuse, .bool x.down, .bool x.broken] 33) = W at hA X zX r0 r1 k0 k1 k2 k3 k4 k5 k6 k7 k8 k9 k10 k11 k12 ⊢
 refine (askCode_any _ E F G x _ _ _ _ _ _ ms ds r0 r1 hw).mono ?_
 rintro e w1 ⟨rfl, b1⟩
 have X1 := X.below b1 zX
 have B1 := Below.andThen hA b1
 have p0 := r0.below b1
 have p1 := r1.below b1
 clear k0 k1 k2 k3 k4 k5 k6 k7 k8 k9 k10 k11 k12 X r0 r1 b1 hA
 by_cases hc : ask8 x ms ds = 0
 . have ha := (ask_good hc).1
   have HV1 : Hid (nextK x ms ds = if (lostT x ms && decide (x.built ≠ x.s)) = true then (if wordsOk6 x ms ds x.built = true then 0 else 5) else 2) := by unfold Hid; rw [HV.out, if_pos hc]
   rw [hc]
   obtain ⟨k0, k1, k2, k3, k4, k5, k6, k7, k8, k9, k10, k11, k12⟩ := X1.cells13
   clear hc HV
   go_wp2_with fail
   refine (lostThere_any _ E F x _ _ _ _ _ _ ms p0 (by have := arr_lost ha; have := (row_length p0).1; omega)).mono ?_
   rintro e w2 ⟨rfl, b2⟩
   have X2 := X1.below b2 X1.lt
   have B2 := Below.andThen B1 b2
   have q0 := p0.below b2
   have q1 := p1.below b2
   clear k0 k1 k2 k3 k4 k5 k6 k7 k8 k9 k10 k11 k12 X1 b2 B1 p0 p1
   obtain ⟨k0, k1, k2, k3, k4, k5, k6, k7, k8, k9, k10, k11, k12⟩ := X2.cells13
   cases hl : lostT x ms
   . have HR : Hid (2 = nextK x ms ds) := by unfold Hid; rw [HV1.out, hl]; rfl
     clear hl
     go_wp2
     go_ret
     exact ⟨ret_int HR.out, B2⟩
   by_cases hb : x.built = x.s
   . have HR : Hid (2 = nextK x ms ds) := by unfold Hid; rw [HV1.out, hl, decide_eq_false (fun h => h hb)]; rfl
     have e1 : (x.built == x.s) = true := by simpa using hb
     clear hl hb
     go_wp2
     go_ret
     exact ⟨ret_int HR.out, B2⟩
   have HR : Hid ((if wordsOk6 x ms ds x.built = true then 0 else 5) = nextK x ms ds) := by unfold Hid; rw [HV1.out, hl, decide_eq_true hb]; rfl
   have e1 : (x.built == x.s) = false := by simpa using hb
   clear hl hb
   go_wp2_with fail
   refine (implWords_any _ E F G x _ _ _ _ _ _ ms ds x.built q0 q1 hw).mono ?_
   rintro e w3 ⟨a', l', c', rfl, _, b3⟩
   have B3 := Below.andThen B2 b3
   clear b3
   cases hok : wordsOk6 x ms ds x.built
   . have HS : Hid (5 = nextK x ms ds) := by unfold Hid; rw [← HR.out, hok]; rfl
     clear hok HR
     go_wp2
     go_ret
     exact ⟨ret_int HS.out, B3⟩
   have HS : Hid (0 = nextK x ms ds) := by unfold Hid; rw [← HR.out, hok]; rfl
   clear hok HR
   go_wp2
   go_ret
   exact ⟨ret_int HS.out, B3⟩
 have HR : Hid (ask8 x ms ds = nextK x ms ds) := by unfold Hid; rw [HV.out, if_neg hc]
 have e0 : (ask8 x ms ds != 0) = true := by simpa using hc
 clear hc
 generalize ask8 x ms ds = q at e0 HR ⊢
 go_wp2
 go_ret
 exact ⟨ret_int HR.out, B1⟩

theorem next_any (w : World) (B : Nat) (q : ArrN × List MemD) (ds : List (Int × List Int)) (fm fd : List Nat) (h : BldAt w B q.1 q.2 ds fm fd) (hw : wtArr q.2 ds <= 2097152) :
 Calls Tryz.prog 51 #[.pointer (some ⟨B, 0, none⟩)] w (Stp w B fm fd ds (stepT ds q).1 (stepT ds q).2) := by
 obtain ⟨x, ms⟩ := q
 dsimp only at h hw
 have HB := hidden h
 obtain ⟨bm, bd, cm, cd, X, hm, hd, hr, r1, r2⟩ := h
 have X0 := X
 unfold arrC at X0
 obtain ⟨k0, k1, k2, k3, k4, k5, k6, k7, k8, k9, k10, k11, k12⟩ := X0.cells13
 have HM := hidden hm.rd
 have HD := hidden hd.rd
 clear X X0 hm hd hr r1 r2
 go_enter Tryz.func51, Tryz.ntmps51
 go_wp2_with fail
 refine (nextCode_any _ _ _ _ x _ _ _ _ _ _ ms ds HM.out HD.out hw).mono ?_
 rintro e w1 ⟨rfl, b1⟩
 have HB1 := hidden (HB.out.turned b1)
 have HBE := hidden b1
 have HT := hidden (turn_any w1 B x ms ds fm fd HB1.out hw (nextK x ms ds) 94 (stepA (x, ms)) (fun B => enters_of Tryz.func94 (by kernel_rfl) (by kernel_rfl) _) (fun hk w' B' fm' fd' _ _ h' _ _ => by simpa using buildStripe_any w' B' x ms ds fm' fd' h' hw hk))
 clear k0 k1 k2 k3 k4 k5 k6 k7 k8 k9 k10 k11 k12 HM HD HB HB1 b1
 go_wp2_with fail
 refine HT.out.mono ?_
 intro e w2 hs
 have HS := hidden (Stp.from hs HBE.out)
 obtain ⟨he, _⟩ := hs
 subst he
 clear HT
 go_wp2
 go_ret
 exact HS.out

theorem adopt_fit {x : ArrN} {ms : List MemD} {ds : List (Int × List Int)} {y : ArrN} {n : Nat} (h : arrB x ms ds = true) (hg : x.gen < 59990) (hy : y.id = x.id /\ y.n = x.n /\ y.s = x.s /\ y.tail = x.seq /\ y.gen = x.gen + 1 /\ y.fuse <= 1000) (hn : n = ms.length) : SupFit {({y with lost := -1, built := 0} : ArrN) with gen := y.gen + 1} n := by
 intro i hi
 have hl := arr_len h
 obtain ⟨y1, y2, y3, y4, y5, _⟩ := hy
 unfold arrB seqB6 at h
 simp only [Bool.and_eq_true, geoB_iff, inB_iff, decide_eq_true_eq] at h
 obtain ⟨hgeo, hid, _, _, _, htl, hsq, _, hgen, _⟩ := h
 rw [supB_iff]
 unfold supA
 dsimp only
 rw [y1, y2, y3, y4, y5]
 exact ⟨hgeo, .inl ⟨rfl, rfl⟩, ⟨by omega, by omega⟩, hid, ⟨by omega, by omega⟩, ⟨by omega, by omega⟩⟩

theorem adoptDisk_any (w : World) (B : Nat) (x : ArrN) (ms : List MemD) (ds : List (Int × List Int)) (fm fd : List Nat) (h : ArrAt w B x ms ds fm fd) (hk : adoptK x ms ds = 0) :
 Calls Tryz.prog 97 #[.pointer (some ⟨B, 0, none⟩)] w (Did w B fm ds fd (adoptA (x, ms))) := by
 obtain ⟨ha, hdn, hl, hbs, hbr, hgen⟩ := adopt_zero hk
 obtain ⟨fc, mk, gc0, gc1⟩ := arr_facts ha
 have hln := arr_len ha
 have HC := hidden (checkDisks_any w B x ms ds fm fd h ha hdn (by omega))
 have HAA : Hid (adoptA (x, ms) = if (checkS (x, ms)).1.down = true then checkS (x, ms) else markS ({(checkS (x, ms)).1 with lost := -1, built := 0}, (checkS (x, ms)).2)) := rfl
 have HN := hidden (check_num (q := (x, ms)) mk fc)
 have HKP := hidden (checkS_keeps (q := (x, ms)) mk fc)
 clear h hk hl hbs hbr
 go_enter Tryz.func97, Tryz.ntmps97
 go_wp2_with fail
 refine HC.out.mono ?_
 rintro e w1 ⟨he, fm1, A1, M1⟩
 have MV1 := hidden M1
 clear HC M1
 generalize checkS (x, ms) = st at he A1 HAA HN HKP
 obtain ⟨y, ns⟩ := st
 dsimp only at he A1 HAA HN HKP
 unfold EndOf at he
 cases hst : y.down
 . rw [if_neg (by simp [hst])] at he
   subst he
   have hn := HN.out hst
   have HV : Hid (adoptA (x, ms) = markS ({y with lost := -1, built := 0}, ns)) := by unfold Hid; rw [HAA.out, if_neg (by simp [hst])]
   have A2 := hidden (arr_numbers A1 (-1)).1
   have MV2 := hidden ((MV1.out.trans (Moved.set (B := B) (j := 4) (fm := fm1) (w := w1) (.int .i64 (-1)))).trans (Moved.set (B := B) (j := 5) (.int .i64 0)))
   have HMK := hidden (markI_any _ B ({y with lost := -1, built := 0} : ArrN) ns ds fm1 fd A2.out hn.2.2.2.2.2 hst HKP.out.1 (by have := HKP.out.2; omega) (by dsimp only; omega) (by dsimp only; omega) (adopt_fit ha hgen hn HKP.out.2))
   obtain ⟨c4, c5, c8, c11, c12, fz⟩ := arr_cells A1
   clear hst hn HN HKP HAA A1 MV1
   generalize markS ({y with lost := -1, built := 0}, ns) = st at HMK HV
   go_wp2_with fail
   refine HMK.out.mono ?_
   rintro e w5 ⟨he, fm5, A5, M5⟩
   have MV5 := hidden (MV2.out.trans M5)
   have HA5 := hidden A5
   clear HMK M5 A5 MV2 A2 c4 c5 c8 c11 c12 fz
   unfold EndOf at he
   cases hd : st.1.down
   . rw [if_neg (by simp [hd])] at he
     subst he
     have HE := hidden (EndOf.fine hd)
     clear hd
     go_wp2
     refine bodyPost_end (v := .tuple #[]) (results_none rfl _ _ _) rfl ?_
     exact ⟨by rw [HV.out]; exact HE.out, fm5, by rw [HV.out]; exact HA5.out, MV5.out⟩
   rw [if_pos hd] at he
   subst he
   have HE := hidden (EndOf.gone hd)
   clear hd
   go_wp2
   exact ⟨rfl, by rw [HV.out]; exact HE.out, fm5, by rw [HV.out]; exact HA5.out, MV5.out⟩
 rw [if_pos hst] at he
 subst he
 have HV : Hid (adoptA (x, ms) = (y, ns)) := by unfold Hid; rw [HAA.out, if_pos hst]
 have HE := hidden (EndOf.gone hst)
 have HA1 := hidden A1
 clear hst HN HKP HAA A1
 go_wp2
 exact ⟨rfl, by rw [HV.out]; exact HE.out, fm1, by rw [HV.out]; exact HA1.out, MV1.out⟩

theorem adoptCode_any (w : World) (E F G : TypeId) (x : ArrN) (am ad : Option Addr) (nm cm nd cd : Nat) (ms : List MemD) (ds : List (Int × List Int)) (h0 : (tMemS E F).Rd w [.slice am nm cm] ms) (h1 : (tWrS G).Rd w [.slice ad nd cd] ds) (hw : wtArr ms ds <= 2097152) :
 Calls Tryz.prog 96 #[.agg #[.int .i64 x.id, .int .i64 x.n, .int .i64 x.s, .slice am nm cm, .int .i64 x.lost, .int .i64 x.built, .int .i64 x.seq, .int .i64 x.tail, .int .i64 x.gen, .slice ad nd cd, .int .i64 x.fuse, .bool x.down, .bool x.broken]] w fun e w' => e = .returned (.int .i64 (adoptK x ms ds)) /\ Below w.heap.size w w' := by
 have hA := new_below w (.cells #[.int .i64 x.id, .int .i64 x.n, .int .i64 x.s, .slice am nm cm, .int .i64 x.lost, .int .i64 x.built, .int .i64 x.seq, .int .i64 x.tail, .int .i64 x.gen, .slice ad nd cd, .int .i64 x.fuse, .bool x.down, .bool x.broken] 33)
 have X := Box.new w 33 #[.int .i64 x.id, .int .i64 x.n, .int .i64 x.s, .slice am nm cm, .int .i64 x.lost, .int .i64 x.built, .int .i64 x.seq, .int .i64 x.tail, .int .i64 x.gen, .slice ad nd cd, .int .i64 x.fuse, .bool x.down, .bool x.broken]
 have zX := X.lt
 obtain ⟨k0, k1, k2, k3, k4, k5, k6, k7, k8, k9, k10, k11, k12⟩ := X.cells13
 have r0 := h0.below hA
 have r1 := h1.below hA
 have HV : Hid (adoptK x ms ds = if ask8 x ms ds = 0 then (if (lostT x ms && decide (x.s <= x.built)) = true then mkC x else 2) else ask8 x ms ds) := rfl
 go_enter Tryz.func96, Tryz.ntmps96
 go_wp2_with fail
 generalize w.alloc (.cells #[.int .i64 x.id, .int .i64 x.n, .int .i64 x.s, .slice am nm cm, .int .i64 x.lost, .int .i64 x.built, .int .i64 x.seq, .int .i64 x.tail, .int .i64 x.gen, .slice ad nd cd, .int .i64 x.fuse, .bool x.down, .bool x.broken] 33) = W at hA X zX r0 r1 k0 k1 k2 k3 k4 k5 k6 k7 k8 k9 k10 k11 k12 ⊢
 refine (askCode_any _ E F G x _ _ _ _ _ _ ms ds r0 r1 hw).mono ?_
 rintro e w1 ⟨rfl, b1⟩
 have X1 := X.below b1 zX
 have B1 := Below.andThen hA b1
 have p0 := r0.below b1
 have p1 := r1.below b1
 clear k0 k1 k2 k3 k4 k5 k6 k7 k8 k9 k10 k11 k12 X r0 r1 b1 hA
 by_cases hc : ask8 x ms ds = 0
 . have ha := (ask_good hc).1
   have HV1 : Hid (adoptK x ms ds = if (lostT x ms && decide (x.s <= x.built)) = true then mkC x else 2) := by unfold Hid; rw [HV.out, if_pos hc]
   rw [hc]
   obtain ⟨k0, k1, k2, k3, k4, k5, k6, k7, k8, k9, k10, k11, k12⟩ := X1.cells13
   clear hc HV
   go_wp2_with fail
   refine (lostThere_any _ E F x _ _ _ _ _ _ ms p0 (by have := arr_lost ha; have := (row_length p0).1; omega)).mono ?_
   rintro e w2 ⟨rfl, b2⟩
   have X2 := X1.below b2 X1.lt
   have B2 := Below.andThen B1 b2
   have q0 := p0.below b2
   have q1 := p1.below b2
   clear k0 k1 k2 k3 k4 k5 k6 k7 k8 k9 k10 k11 k12 X1 b2 B1 p0 p1
   obtain ⟨k0, k1, k2, k3, k4, k5, k6, k7, k8, k9, k10, k11, k12⟩ := X2.cells13
   cases hl : lostT x ms
   . have HR : Hid (2 = adoptK x ms ds) := by unfold Hid; rw [HV1.out, hl]; rfl
     clear hl
     go_wp2
     go_ret
     exact ⟨ret_int HR.out, B2⟩
   by_cases hb : x.built < x.s
   . have HR : Hid (2 = adoptK x ms ds) := by unfold Hid; rw [HV1.out, hl, decide_eq_false (by omega)]; rfl
     clear hl
     go_wp2
     go_ret
     exact ⟨ret_int HR.out, B2⟩
   have HR : Hid (mkC x = adoptK x ms ds) := by unfold Hid; rw [HV1.out, hl, decide_eq_true (by omega)]; rfl
   clear hl
   go_wp2_with fail
   refine (markCode_any _ x _ _ _ _ _ _).mono ?_
   rintro e w3 ⟨rfl, b3⟩
   have B3 := Below.andThen B2 b3
   generalize mkC x = c at HR ⊢
   go_wp2
   go_ret
   exact ⟨ret_int HR.out, B3⟩
 have HR : Hid (ask8 x ms ds = adoptK x ms ds) := by unfold Hid; rw [HV.out, if_neg hc]
 have e0 : (ask8 x ms ds != 0) = true := by simpa using hc
 clear hc
 generalize ask8 x ms ds = q at e0 HR ⊢
 go_wp2
 go_ret
 exact ⟨ret_int HR.out, B1⟩

theorem adopt_any (w : World) (B : Nat) (q : ArrN × List MemD) (ds : List (Int × List Int)) (fm fd : List Nat) (h : BldAt w B q.1 q.2 ds fm fd) (hw : wtArr q.2 ds <= 2097152) :
 Calls Tryz.prog 53 #[.pointer (some ⟨B, 0, none⟩)] w (Stp w B fm fd ds (adoptT ds q).1 (adoptT ds q).2) := by
 obtain ⟨x, ms⟩ := q
 dsimp only at h hw
 have HB := hidden h
 obtain ⟨bm, bd, cm, cd, X, hm, hd, hr, r1, r2⟩ := h
 have X0 := X
 unfold arrC at X0
 obtain ⟨k0, k1, k2, k3, k4, k5, k6, k7, k8, k9, k10, k11, k12⟩ := X0.cells13
 have HM := hidden hm.rd
 have HD := hidden hd.rd
 clear X X0 hm hd hr r1 r2
 go_enter Tryz.func53, Tryz.ntmps53
 go_wp2_with fail
 refine (adoptCode_any _ _ _ _ x _ _ _ _ _ _ ms ds HM.out HD.out hw).mono ?_
 rintro e w1 ⟨rfl, b1⟩
 have HB1 := hidden (HB.out.turned b1)
 have HBE := hidden b1
 have HT := hidden (turn_any w1 B x ms ds fm fd HB1.out hw (adoptK x ms ds) 97 (adoptA (x, ms)) (fun B => enters_of Tryz.func97 (by kernel_rfl) (by kernel_rfl) _) (fun hk w' B' fm' fd' _ _ h' _ _ => by simpa using adoptDisk_any w' B' x ms ds fm' fd' h' hk))
 clear k0 k1 k2 k3 k4 k5 k6 k7 k8 k9 k10 k11 k12 HM HD HB HB1 b1
 go_wp2_with fail
 refine HT.out.mono ?_
 intro e w2 hs
 have HS := hidden (Stp.from hs HBE.out)
 obtain ⟨he, _⟩ := hs
 subst he
 clear HT
 go_wp2
 go_ret
 exact HS.out

theorem throughL_any (w : World) (B : Nat) (q0 : ArrN × List MemD) (ds : List (Int × List Int)) (fm fd : List Nat) (h : BldAt w B q0.1 q0.2 ds fm fd) (fs : List StM) (Fs : Nat -> FuncId) (g cap : Nat) (hg : g < w.heap.size) (hgB : g ≠ B) (hcap : fs.length <= 2097152)
 (hrow : ∀ k, k < fs.length -> w.cell? ⟨g, k, none⟩ = some (.func (Fn.func (Fs k)) #[.pointer (some ⟨B, 0, none⟩)] #[])) (hen : ∀ k, k < fs.length -> Enters (Fs k) #[.pointer (some ⟨B, 0, none⟩)])
 (P : ArrN × List MemD -> Prop) (hP0 : P q0) (hP : ∀ (k : Nat) (f : StM) (q : ArrN × List MemD), fs[k]? = some f -> P q -> P (f q).1)
 (hst : ∀ (k : Nat) (f : StM), fs[k]? = some f -> ∀ (w' : World) (fm' fd' : List Nat) (q : ArrN × List MemD), BldAt w' B q.1 q.2 ds fm' fd' -> P q -> Calls Tryz.prog (Fs k) #[.pointer (some ⟨B, 0, none⟩)] w' (Stp w' B fm' fd' ds (f q).1 (f q).2)) :
 Calls Tryz.prog 48 #[.pointer (some ⟨B, 0, none⟩), .slice (some ⟨g, 0, none⟩) fs.length cap] w (Thr w B fm fd ds (runT fs q0).1 (runT fs q0).2) := by
 have hA := new_below w (.cells #[.int .i64 0, .int .i64 0, .int .i64 0, .slice none 0 0, .int .i64 0, .int .i64 0, .int .i64 0, .int .i64 0, .int .i64 0, .slice none 0 0, .int .i64 0, .bool false, .bool false] 33)
 have R0 := Box.new w 33 #[.int .i64 0, .int .i64 0, .int .i64 0, .slice none 0 0, .int .i64 0, .int .i64 0, .int .i64 0, .int .i64 0, .int .i64 0, .slice none 0 0, .int .i64 0, .bool false, .bool false]
 have H0 := hidden (h.turned hA)
 have hlm : ∀ b ∈ fm, b < w.heap.size := by obtain ⟨_, _, _, _, _, hm, _⟩ := h; exact hm.lt
 have hld : ∀ b ∈ fd, b < w.heap.size := by obtain ⟨_, _, _, _, _, _, hd, _⟩ := h; exact hd.lt
 have zB : B < w.heap.size := by obtain ⟨_, _, _, _, X, _⟩ := h; exact X.lt
 have HROW := hidden (fun k hk => (hA.cell (p := ⟨g, k, none⟩) hg).trans (hrow k hk))
 have HST := hidden hst
 have HEN := hidden hen
 have HPP := hidden hP
 have HP0 := hidden hP0
 clear h hrow hst hen hP hP0
 go_enter Tryz.func48, Tryz.ntmps48
 go_wp2
 have zW : w.heap.size < (w.alloc (.cells #[.int .i64 0, .int .i64 0, .int .i64 0, .slice none 0 0, .int .i64 0, .int .i64 0, .int .i64 0, .int .i64 0, .int .i64 0, .slice none 0 0, .int .i64 0, .bool false, .bool false] 33)).heap.size := by simp
 generalize w.alloc (.cells #[.int .i64 0, .int .i64 0, .int .i64 0, .slice none 0 0, .int .i64 0, .int .i64 0, .int .i64 0, .int .i64 0, .int .i64 0, .slice none 0 0, .int .i64 0, .bool false, .bool false] 33) = W at hA R0 H0 HROW zW ⊢
 obtain ⟨R, hR⟩ : ∃ R, w.heap.size = R := ⟨_, rfl⟩
 have hR1 : w.heap.size <= R /\ R < W.heap.size := by omega
 have hBR : ¬ B = R /\ ¬ g = R := by omega
 rw [hR] at R0 ⊢
 clear hR zW
 go_loopw [11] (fun i wr => ∃ (j : Nat) (q : ArrN × List MemD) (fm1 fd1 : List Nat), j <= fs.length /\ i = .int .i64 j /\ runT (fs.drop j) q = runT fs q0 /\ P q /\ BldAt wr B q.1 q.2 ds fm1 fd1 /\ Turned [B] W wr /\ (∀ b ∈ fm1, b ∈ fm ∨ W.heap.size <= b) /\ ∀ b ∈ fd1, b ∈ fd ∨ W.heap.size <= b) (fun i _ => fs.length - (intOf i).toNat)
 case atStart => exact ⟨0, q0, fm, fd, Nat.zero_le _, rfl, rfl, HP0.out, H0.out, Turned.refl _ _, fun b hb => .inl hb, fun b hb => .inl hb⟩
 obtain ⟨j, q, fm1, fd1, hj, rfl, hrun, hPq, hB, hT, hf1, hf2⟩ := hrel
 have R1 := R0.turned hT (by simp; omega)
 have zT := hT.size
 by_cases hjn : j < fs.length
 . have i1 : (0 : Int) <= (j : Int) := by omega
   have i2 : (j : Int) < (fs.length : Int) := by omega
   have hfj : fs[j]? = some (fs[j]'hjn) := List.getElem?_eq_getElem hjn
   generalize fs[j]'hjn = f at hfj
   have hcr : wr.cell? ⟨g, j, none⟩ = some (.func (Fn.func (Fs j)) #[.pointer (some ⟨B, 0, none⟩)] #[]) := (World.cell?_of_block (w := W) (hT.block g (by have := hA.size; omega) (by simpa using hgB))).trans (HROW.out j hjn)
   have hen := HEN.out j hjn
   have HC := hidden (HST.out j f hfj wr fm1 fd1 q hB hPq)
   have HPN := hidden (HPP.out j f q hfj hPq)
   have HG := hidden (fun h => runT_good (q := q) hfj h)
   have HE := hidden (fun h => runT_end (q := q) hfj h)
   have HRUN := hidden hrun
   have HT := hidden hT
   have HF1 := hidden hf1
   have HF2 := hidden hf2
   generalize Fs j = Fj at hcr hen HC
   have hcf : ∀ w : World, Sem.run Tryz.prog (callFunc Fj #[.pointer (some ⟨B, 0, none⟩)]) w = .ok (.enter Fj #[.pointer (some ⟨B, 0, none⟩)]) w := hen
   clear hrun hT hf1 hf2 hB hPq hen
   go_wp2_with fail
   refine HC.out.mono ?_
   rintro e w1 ⟨rfl, fm2, fd2, B2, T2, g1, g2⟩
   have HT2 := hidden (HT.out.trans T2)
   have R2 := R1.turned T2 (by simp; omega)
   have HM2 : Hid (∀ b ∈ fm2, b ∈ fm ∨ W.heap.size <= b) := fun b hb => by rcases g1 b hb with h | h; exact HF1.out b h; exact .inr (by omega)
   have HD2 : Hid (∀ b ∈ fd2, b ∈ fd ∨ W.heap.size <= b) := fun b hb => by rcases g2 b hb with h | h; exact HF2.out b h; exact .inr (by omega)
   clear g1 g2 T2 R1 HC hcr hcf
   generalize f q = p at HPN HG HE B2 ⊢
   obtain ⟨⟨y, ns⟩, c⟩ := p
   dsimp only at HPN HG HE B2 ⊢
   by_cases hc : c = 0
   . have e0 : (c != 0) = false := by simpa using hc
     have HN := hidden ((HG.out hc).symm.trans HRUN.out)
     have HB2 := hidden B2
     clear hc B2
     go_wp2
     go_roundw
     case rel => exact ⟨j + 1, (y, ns), fm2, fd2, by omega, by go_num, HN.out, HPN.out, HB2.out, HT2.out, HM2.out, HD2.out⟩
     case measure => simp [intOf]; omega
   have e0 : (c != 0) = true := by simpa using hc
   have HN := hidden (HRUN.out.symm.trans (HE.out hc))
   obtain ⟨vm, vd, cvm, cvd, X2, mm2, dd2, hr2, _, _⟩ := B2
   unfold arrC at X2
   have HO := hidden (thr_out (y := y) (c := c) (e := .returned (.tuple #[.agg (arrC y _ _), .int .i64 c])) (fm := fm) (fd := fd) hR1.1 hR1.2 hA HT2.out rfl mm2 dd2 hr2 (fun b hb => by rcases HM2.out b hb with h | h; exact .inl ⟨h, hlm b h⟩; exact .inr h) (fun b hb => by rcases HD2.out b hb with h | h; exact .inl ⟨h, hld b h⟩; exact .inr h))
   obtain ⟨t0, t1, t2, t3, t4, t5, t6, t7, t8, t9, t10, t11, t12⟩ := X2.cells13
   obtain ⟨s0, s1, s2, s3, s4, s5, s6, s7, s8, s9, s10, s11, s12⟩ := R2.cells13
   have fzr := R2.frozen
   unfold arrC at HO
   simp only [puts] at HO
   clear hc X2 mm2 dd2 R2
   go_wp2
   refine bodyPost_ret (v := .tuple #[.agg #[.int .i64 y.id, .int .i64 y.n, .int .i64 y.s, .slice vm ns.length cvm, .int .i64 y.lost, .int .i64 y.built, .int .i64 y.seq, .int .i64 y.tail, .int .i64 y.gen, .slice vd ds.length cvd, .int .i64 y.fuse, .bool y.down, .bool y.broken], .int .i64 c]) (by simp [results, Tryz.results48, go_sem, s0, s1, s2, s3, s4, s5, s6, s7, s8, s9, s10, s11, s12]) rfl ?_
   rw [HN.out]; exact HO.out
 have ej : j = fs.length := by omega
 have HN : Hid (runT fs q0 = (q, 0)) := by unfold Hid; rw [← hrun, ej, List.drop_length]; rfl
 obtain ⟨y, ns⟩ := q
 dsimp only at hB
 obtain ⟨vm, vd, cvm, cvd, X2, mm2, dd2, hr2, _, _⟩ := hB
 unfold arrC at X2
 have HO := hidden (thr_out (y := y) (c := 0) (e := .returned (.tuple #[.agg (arrC y _ _), .int .i64 0])) (fm := fm) (fd := fd) hR1.1 hR1.2 hA hT rfl mm2 dd2 hr2 (fun b hb => by rcases hf1 b hb with h | h; exact .inl ⟨h, hlm b h⟩; exact .inr h) (fun b hb => by rcases hf2 b hb with h | h; exact .inl ⟨h, hld b h⟩; exact .inr h))
 obtain ⟨t0, t1, t2, t3, t4, t5, t6, t7, t8, t9, t10, t11, t12⟩ := X2.cells13
 obtain ⟨s0, s1, s2, s3, s4, s5, s6, s7, s8, s9, s10, s11, s12⟩ := R1.cells13
 have fzr := R1.frozen
 unfold arrC at HO
 simp only [puts] at HO
 clear X2 mm2 dd2 R1 hrun ej hT hf1 hf2 hPq
 go_wp2
 refine bodyPost_ret (v := .tuple #[.agg #[.int .i64 y.id, .int .i64 y.n, .int .i64 y.s, .slice vm ns.length cvm, .int .i64 y.lost, .int .i64 y.built, .int .i64 y.seq, .int .i64 y.tail, .int .i64 y.gen, .slice vd ds.length cvd, .int .i64 y.fuse, .bool y.down, .bool y.broken], .int .i64 0]) (by simp [results, Tryz.results48, go_sem, s0, s1, s2, s3, s4, s5, s6, s7, s8, s9, s10, s11, s12]) rfl ?_
 rw [HN.out]; exact HO.out

end Go.Proofs.YtechckninoilhaaGreat

namespace Go.Proofs.YtechckninoilhaaGreat
open Go.RowKit Go.Shelf

def growRen12 : Go.Shelf.Ren := ⟨fun | 4 => 99 | n => n, fun | 0 => 0 | 3 => 3 | 4 => 4 | 9 => 9 | 20 => 20 | 22 => 70 | 25 => 72 | n => n, fun n => n⟩

theorem growLays12 : Lays8.n4 Tryz.prog growRen12 where
 mixed := by kernel_rfl
 f4 := ⟨Tryz.f99.name, by kernel_rfl, Tryz.func99.trans (congrArg some (by kernel_rfl))⟩
 t0 := Tryz.underlying0
 a0 := Tryz.isAgg0
 z0 := Tryz.sizeOf0
 v0 := Tryz.zeroValue0
 t3 := Tryz.underlying3
 a3 := Tryz.isAgg3
 z3 := Tryz.sizeOf3
 v3 := Tryz.zeroValue3
 t4 := Tryz.underlying4
 a4 := Tryz.isAgg4
 z4 := Tryz.sizeOf4
 v4 := Tryz.zeroValue4
 t9 := Tryz.underlying9
 a9 := Tryz.isAgg9
 z9 := Tryz.sizeOf9
 v9 := Tryz.zeroValue9
 t20 := Tryz.underlying20
 a20 := Tryz.isAgg20
 z20 := Tryz.sizeOf20
 v20 := Tryz.zeroValue20
 t22 := Tryz.underlying70
 a22 := Tryz.isAgg70
 z22 := Tryz.sizeOf70
 v22 := Tryz.zeroValue70

end Go.Proofs.YtechckninoilhaaGreat

namespace Go.Proofs.YtechckninoilhaaGreat
open Go.RowKit

theorem mul64_any (w : World) (n : Int) (h0 : 0 <= n) (h8 : n <= 8) : Calls Tryz.prog 136 #[.int .u64 1, .int .u64 n] w fun e w' => e = .returned (.tuple #[.int .u64 0, .int .u64 n]) /\ w' = w := by
 have hn : n = 0 ∨ n = 1 ∨ n = 2 ∨ n = 3 ∨ n = 4 ∨ n = 5 ∨ n = 6 ∨ n = 7 ∨ n = 8 := by omega
 rcases hn with rfl | rfl | rfl | rfl | rfl | rfl | rfl | rfl | rfl
 all_goals
  go_enter Tryz.func136, Tryz.ntmps136
  go_wp2
  refine bodyPost_ret (v := .tuple #[.int .u64 0, .int .u64 _]) (by kernel_rfl) rfl ⟨rfl, rfl⟩

theorem mul_any (w : World) (n : Int) (h0 : 0 <= n) (h8 : n <= 8) : Calls Tryz.prog 98 #[.int .u64 1, .int .u64 n] w fun e w' => e = .returned (.tuple #[.int .u64 0, .int .u64 n]) /\ w' = w := by
 go_enter Tryz.func98, Tryz.ntmps98
 go_wp2_with fail
 refine (mul64_any _ n h0 h8).mono ?_
 rintro e w1 ⟨rfl, hw⟩
 subst hw
 go_wp2
 refine bodyPost_ret (v := .tuple #[.int .u64 0, .int .u64 n]) (by kernel_rfl) rfl ⟨rfl, rfl⟩

theorem Tryz.infoStep : (Tryz.prog.info? 72).map (fun i => (i.zero, i.size, i.bytes)) = some (some .nilFunc, 1, 8) := by kernel_rfl
theorem turned_cells (g : Nat) : ∀ (vs : List Value) (o : Nat) (w : World), Turned [g] w (w.setCells g o vs)
 | [], _, _ => Turned.refl _ _
 | v :: vs, o, w => (Turned.setCell (w := w) (j := o) v (List.mem_singleton.2 rfl)).trans (turned_cells g vs (o + 1) _)
def Rep12 (w : World) (n : Nat) (v : Value) (e : Ending) (w' : World) : Prop :=
 ∃ g, e = .returned (.slice (some ⟨g, 0, none⟩) n n) /\ w.heap.size <= g /\ g < w'.heap.size /\ (∀ j, j < n -> w'.cell? ⟨g, j, none⟩ = some v) /\ Below w.heap.size w w'

theorem add12 (g j : Nat) : (⟨g, 0, none⟩ : Addr).add j = ⟨g, j, none⟩ := by
 cases j with
 | zero => rfl
 | succ j => simp [Addr.add]
def RowF (w : World) (g n m : Nat) (v : Value) : Prop := (∀ j, j < m -> w.cell? ⟨g, j, none⟩ = some v) /\ (∀ j, j < n -> (w.cell? ⟨g, j, none⟩).isSome = true) /\ ∀ j, w.frozen? ⟨g, j, none⟩ = false
theorem rowF_made {w : World} {base g n : Nat} (h : w.ownsRow base 72 1 (.slice (some ⟨g, 0, none⟩) n n) n (madeCells (Value.cells .nilFunc) (n * 1)).toList) (v : Value) : RowF w g n 0 v /\ g < w.heap.size := by
 rcases h.2 with ⟨h', _⟩ | ⟨g', cap, cur, h', hb, hg, hnc, hcm, hcs, htake⟩
 . simp at h'
 simp only [Value.slice.injEq, Option.some.injEq, Addr.mk.injEq, and_true, true_and] at h'
 obtain ⟨rfl, rfl⟩ := h'
 refine ⟨⟨fun j hj => by omega, fun j hj => ?_, fun j => frozen_of_row w g j cur _ hg⟩, (Array.getElem?_eq_some_iff.1 hg).1⟩
 rw [cell_of_row w g j cur _ (0, 0) hg, Array.getElem?_eq_getElem (by omega)]
 rfl
theorem rowF_set {w : World} {g n m k : Nat} {v : Value} (h : RowF w g n m v) (hk : m + k <= n) : RowF (w.setCells g m (List.replicate k v)) g n (m + k) v := by
 obtain ⟨h1, h2, h3⟩ := h
 have hin : ∀ i, i < k -> (w.setCells g m (List.replicate k v)).cell? ⟨g, m + i, none⟩ = some v := fun i hi => by
  have := World.cell?_setCells_in g (List.replicate k v) m w (fun j hj => h2 (m + j) (by simp at hj; omega)) i (by simpa using hi)
  rw [this, List.getElem_replicate]
 refine ⟨fun j hj => ?_, fun j hj => ?_, fun j => by rw [World.frozen?_setCells]; exact h3 j⟩
 . by_cases hjm : j < m
   . rw [World.cell?_setCells_out g _ m w ⟨g, j, none⟩ (fun _ _ => .inl hjm)]; exact h1 j hjm
   obtain ⟨i, rfl⟩ : ∃ i, j = m + i := ⟨j - m, by omega⟩
   exact hin i (by omega)
 by_cases hjm : j < m
 . rw [World.cell?_setCells_out g _ m w ⟨g, j, none⟩ (fun _ _ => .inl hjm)]; exact h2 j hj
 by_cases hjk : j < m + k
 . obtain ⟨i, rfl⟩ : ∃ i, j = m + i := ⟨j - m, by omega⟩
   rw [hin i (by omega)]; rfl
 rw [World.cell?_setCells_out g _ m w ⟨g, j, none⟩ (fun _ _ => .inr (by simp; omega))]; exact h2 j hj
theorem rowF_copy {w : World} {g n m k dl dc : Nat} {v : Value} (h1 : v.oneCell' = true) (h : RowF w g n m v) (a : Addr) (sl sc : Nat) (hk : k = Nat.min sl dl) (hmk : m + k <= n) (hsrc : ∀ j, j < k -> w.cell? (a.add j) = some v) (ty : TypeId) :
 (Builtin.copy_ #[70, 70] ty #[.slice (some ⟨g, m, none⟩) dl dc, .slice (some a) sl sc]).run Tryz.prog w = .ok (.int .i64 (k : Int)) (w.setCells g m (List.replicate k v)) := by
 have := run_copy_cells (P := Tryz.prog) w 70 70 ty 72 g m dl dc a sl sc (List.replicate k v) Tryz.underlying70 (by kernel_rfl) (by simpa using hk) (fun j u hu => by
  have hj := (List.getElem?_eq_some_iff.1 hu).1
  simp at hj
  rw [List.getElem?_replicate, if_pos hj] at hu
  cases hu
  exact hsrc j hj) (fun j hj => h.2.1 (m + j) (by simp at hj; omega)) (fun j _ => h.2.2 (m + j)) (fun u hu => by rw [(List.mem_replicate.1 hu).2]; exact h1)
 rw [this]
 simp [goInt]

theorem repeat_any (w : World) (g0 : Nat) (v : Value) (h1 : v.oneCell' = true) (hc : w.cell? ⟨g0, 0, none⟩ = some v) (hg0 : g0 < w.heap.size) (n : Nat) (hn : n <= 8) :
 Calls Tryz.prog 54 #[.slice (some ⟨g0, 0, none⟩) 1 1, .int .i64 (n : Int)] w (Rep12 w n v) := by
 obtain ⟨i0, hi, hz0, hz1, hz2⟩ := info_parts Tryz.infoStep
 have hb3 : i0.bytes * n <= 281474976710656 := by rw [hz2]; omega
 have hm3 : n <= maxLen := by unfold maxLen; omega
 have hp : (0 : Int) <= (n : Int) := by omega
 have hw1 : IntKind.u64.wrap (n : Int) = (n : Int) := IntWalk.u64_in _ (by omega)
 have hw2 : IntKind.i64.wrap (n : Int) = (n : Int) := IntWalk.i64_in _ (by omega)
 have hlt : ¬ (9223372036854775807 : Int) < (n : Int) := by omega
 go_enter Tryz.func54, Tryz.ntmps54
 go_wp2_with fail
 refine (mul_any _ (n : Int) hp (by omega)).mono ?_
 rintro e w1 ⟨rfl, hw⟩
 subst hw
 go_wp2_with (at_make; refine wpList_make_full _ rfl _ _ 70 rfl w1.heap.size 72 i0 .nilFunc 1 Tryz.underlying70 hi hz0 hz1 _ _ _ _ n rfl rfl rfl rfl hb3 hm3 (Nat.le_refl _) ?_; intro w2 hown hgrow)
 have hB1 : Below w1.heap.size w1 w2 := (Below.refl _ _).grown hgrow (Nat.le_refl _) (by simp)
 obtain ⟨hF, hgl⟩ := rowF_made hown v
 obtain ⟨g, hg⟩ : ∃ g, w1.heap.size = g := ⟨_, rfl⟩
 have hgg : w1.heap.size <= g /\ g <= w1.heap.size := by omega
 rw [hg] at hF hgl ⊢
 clear hown hgrow hg
 have hc2 : w2.cell? ⟨g0, 0, none⟩ = some v := (hB1.cell (p := ⟨g0, 0, none⟩) hg0).trans hc
 have hk0 : Nat.min 1 n = min 1 n := rfl
 have hsrc0 : ∀ j, j < min 1 n -> w2.cell? ((⟨g0, 0, none⟩ : Addr).add j) = some v := by
  intro j hj
  obtain rfl : j = 0 := by omega
  exact hc2
 have hcp := rowF_copy (k := min 1 n) (dl := n) (dc := n) h1 hF ⟨g0, 0, none⟩ 1 1 hk0.symm (by omega) hsrc0
 have hF1 := rowF_set (k := min 1 n) hF (by omega)
 have hB2 : Below w1.heap.size w1 (w2.setCells g 0 (List.replicate (min 1 n) v)) := hB1.trans ((turned_cells g _ 0 w2).below (by omega) (by simp; omega))
 have hz3 := (turned_cells g (List.replicate (min 1 n) v) 0 w2).size
 rw [Nat.zero_add] at hF1
 have hm1 : min 1 n <= n /\ (0 < n -> 0 < min 1 n) := by omega
 clear hF hB1 hc2 hk0 hsrc0
 generalize min 1 n = m0 at hcp hF1 hB2 hz3 hm1
 have HF1 := hidden hF1
 have HB2 := hidden hB2
 clear hF1 hB2
 go_wp2
 rw [hcp]
 clear hcp
 go_wp2
 generalize w2.setCells g 0 (List.replicate m0 v) = w3 at HF1 HB2 hz3 ⊢
 go_loopw [8] (fun i wr => ∃ m : Nat, m <= n /\ (0 < n -> 0 < m) /\ i = .int .i64 m /\ RowF wr g n m v /\ Below w1.heap.size w1 wr /\ g < wr.heap.size) (fun i _ => n - (intOf i).toNat)
 case atStart => exact ⟨m0, hm1.1, hm1.2, rfl, HF1.out, HB2.out, by omega⟩
 obtain ⟨m, hm, hmp, rfl, hF, hB, hgr⟩ := hrel
 by_cases hmn : m < n
 . have hk : ∃ k, k = Nat.min m (n - m) := ⟨_, rfl⟩
   obtain ⟨k, hk⟩ := hk
   have hkb : 0 < k /\ m + k <= n /\ k <= m := by rw [hk]; simp only [Nat.min_def]; split <;> omega
   have hFd : RowF wr.drew g n m v := hF
   have hcp := rowF_copy (w := wr.drew) (k := k) (dl := n - m) (dc := n - m) h1 hFd ⟨g, 0, none⟩ m n hk hkb.2.1 (fun j hj => by rw [add12]; exact hFd.1 j (by omega))
   have HF2 := hidden (rowF_set (k := k) hFd hkb.2.1)
   have HB3 := hidden (hB.drew.trans ((turned_cells g (List.replicate k v) m wr.drew).below (N := w1.heap.size) (by have := hB.size; simpa using this) (by simp; omega)))
   have HGR := hidden (Nat.lt_of_lt_of_le (show g < wr.drew.heap.size from hgr) (turned_cells g (List.replicate k v) m wr.drew).size)
   have j1 : (0 : Int) <= (m : Int) := by omega
   have j2 : (m : Int) <= (n : Int) := by omega
   have j3 : (m : Int) < (n : Int) := by omega
   have hnm : ¬ n = m := by omega
   have hwk : IntKind.i64.wrap ((m : Int) + (k : Int)) = (m : Int) + (k : Int) := IntWalk.i64_in _ (by omega)
   clear hF hFd hB hk
   go_wp2_with fail
   refine wp_region_held_drew (S := fun _ => True) (by kernel_rfl) ?_ (fun hHeld => ?_)
   . exact trivial
   refine held_t 0 hHeld ?_
   refine held_t 1 hHeld ?_
   refine held_t 2 hHeld ?_
   refine held_t 3 hHeld ?_
   refine held_t 4 hHeld ?_
   refine held_t 5 hHeld ?_
   refine held_t 6 hHeld ?_
   refine held_one (i := 7) (by kernel_rfl) rfl (by kernel_rfl) (fun K hK => ?_)
   go_simp
   refine hK.out _ _ ?_ (fun hHeld => ?_)
   . exact trivial
   clear hK K
   refine held_t 8 hHeld ?_
   refine held_t 9 hHeld ?_
   refine wpAnyH_done (by kernel_rfl) ?_ _
   clear hHeld
   go_wp2
   go_roundw
   case rel => exact ⟨m + k, hkb.2.1, fun _ => by omega, by go_num, HF2.out, HB3.out, HGR.out⟩
   case measure => simp [intOf]; omega
 have em : m = n := by omega
 have HF2 := hidden hF
 have HB3 := hidden hB
 clear hF hB
 go_wp2
 go_ret
 exact ⟨g, rfl, hgg.1, hgr, fun j hj => HF2.out.1 j (by omega), HB3.out⟩

def Elems (t : Ty) (w : World) (vs : List Value) (ys : List t.D) (fs : List (List Nat)) : Prop :=
 vs.length = ys.length * t.n /\ fs.length = ys.length /\ fs.flatten.Nodup /\ ∀ i y, ys[i]? = some y -> ∃ f, fs[i]? = some f /\ t.ow w ((vs.drop (i * t.n)).take t.n) y f
theorem Elems.lt {t : Ty} {w : World} {vs : List Value} {ys : List t.D} {fs : List (List Nat)} (h : Elems t w vs ys fs) : ∀ c ∈ fs.flatten, c < w.heap.size := by
 intro c hc
 obtain ⟨_, h7, _, h8⟩ := h
 obtain ⟨f', hf', hcf⟩ := List.mem_flatten.1 hc
 obtain ⟨i, hi⟩ := List.mem_iff_getElem?.1 hf'
 have hil : i < ys.length := by rw [← h7]; exact (List.getElem?_eq_some_iff.1 hi).1
 obtain ⟨f2, hf2, ho2⟩ := h8 i _ (List.getElem?_eq_getElem hil)
 rw [hi] at hf2
 simp at hf2
 subst hf2
 exact t.rdLt (t.owRd ho2) c hcf

theorem row_cellsN {t : Ty} {E : TypeId} {w : World} {lo b cap : Nat} {d : List t.D} {fp : List Nat} (h : (rowTy t E).Mine w [.slice (some ⟨b, 0, none⟩) d.length cap] d fp) (hlo : ∀ b ∈ fp, lo <= b) :
 ∃ xs, w.ownsRow lo E t.n (.slice (some ⟨b, 0, none⟩) d.length cap) d.length xs /\ ∀ w' v' vs ys fs, Elems t w vs ys fs -> (∀ b ∈ fp, b ∉ fs.flatten) -> w'.ownsRow lo E t.n v' (d.length + ys.length) (xs ++ vs) -> w.grownBy w' (some b) -> (v'.ownBlock = some b ∨ v'.ownBlock = some w.heap.size) ->
  ∃ fp', (rowTy t E).Mine w' [v'] (d ++ ys) fp' /\ (∀ c ∈ fp', c ∈ fp ∨ c ∈ fs.flatten ∨ (c = w.heap.size /\ c < w'.heap.size)) /\ Turned fp w w' := by
 obtain ⟨h, hn⟩ := h
 rcases h with ⟨h1, _⟩ | ⟨b', cap', cur, fps, h1, h2, h3, h4, h5, rfl, h7, h8⟩
 . simp at h1
 simp only [List.cons.injEq, Value.slice.injEq, Option.some.injEq, Addr.mk.injEq, and_true] at h1
 obtain ⟨rfl, _, rfl⟩ := h1
 have hle : d.length * t.n <= cap * t.n := Nat.mul_le_mul_right _ h2
 have hxl : (cur.toList.take (d.length * t.n)).length = d.length * t.n := by
  have hcl : cur.toList.length = cap * t.n := by rw [Array.length_toList]; exact h5
  rw [List.length_take, hcl]
  omega
 refine ⟨cur.toList.take (d.length * t.n), ⟨hxl, .inr ⟨b, cap, cur, rfl, hlo b List.mem_cons_self, h4, h2, h3, h5, rfl⟩⟩, fun w' v' vs ys fs hx hdis ho hg hat => ?_⟩
 have hel := hx.lt
 obtain ⟨e1, e2, e3, e4⟩ := hx
 rw [List.nodup_cons] at hn
 obtain ⟨hbf, hnf⟩ := hn
 have hfplt : ∀ c ∈ fps.flatten, c < w.heap.size := by
  intro c hc
  obtain ⟨f', hf', hcf⟩ := List.mem_flatten.1 hc
  obtain ⟨i, hi⟩ := List.mem_iff_getElem?.1 hf'
  have hil : i < d.length := by rw [← h7]; exact (List.getElem?_eq_some_iff.1 hi).1
  obtain ⟨f2, hf2, ho2⟩ := h8 i _ (List.getElem?_eq_getElem hil)
  rw [hi] at hf2
  simp at hf2
  subst hf2
  exact t.rdLt (t.owRd ho2) c hcf
 have hbx : b ∉ fs.flatten := hdis b List.mem_cons_self
 have hkeep : ∀ c, c < w.heap.size -> c ≠ b -> w'.heap[c]? = w.heap[c]? := fun c hc hne => hg.block c hc (by simpa using hne)
 rcases ho.2 with ⟨hv0, h0⟩ | ⟨g, cap', cur', hv', hb, hg', hnc, hcm, hcs, htake⟩
 . have hd0 : d = [] := List.eq_nil_of_length_eq_zero (by omega)
   have hy0 : ys = [] := List.eq_nil_of_length_eq_zero (by omega)
   subst hd0 hy0 hv0
   exact ⟨[], ⟨.inl ⟨rfl, rfl, rfl⟩, List.nodup_nil⟩, by simp, hg.os, hg.tape, hg.output, hg.size, fun k hk hf => hkeep k hk (fun e => hf (by rw [e]; exact List.mem_cons_self))⟩
 have hgs : g = b ∨ g = w.heap.size := by
  rw [hv'] at hat
  simpa [Value.ownBlock] using hat
 have hgl : g < w'.heap.size := (Array.getElem?_eq_some_iff.1 hg').1
 subst hv'
 have hfl : (fps ++ fs).flatten = fps.flatten ++ fs.flatten := by simp
 have hcell : ∀ k, k < d.length * t.n + ys.length * t.n -> cur'.toList[k]? = (cur.toList.take (d.length * t.n) ++ vs)[k]? := fun k hk => by
  have := congrArg (fun l => l[k]?) htake
  simp only [List.getElem?_take] at this
  rw [if_pos (by rw [Nat.add_mul]; omega)] at this
  exact this
 have hseg : ∀ i, i < d.length -> (cur'.toList.drop (i * t.n)).take t.n = (cur.toList.drop (i * t.n)).take t.n := by
  intro i hi
  have hmul : (i + 1) * t.n <= d.length * t.n := Nat.mul_le_mul_right _ hi
  rw [Nat.add_mul, Nat.one_mul] at hmul
  apply List.ext_getElem?
  intro k
  rw [List.getElem?_take, List.getElem?_take]
  by_cases hk : k < t.n
  . rw [if_pos hk, if_pos hk, List.getElem?_drop, List.getElem?_drop, hcell _ (by omega), List.getElem?_append_left (by rw [hxl]; omega), List.getElem?_take, if_pos (by omega)]
  rw [if_neg hk, if_neg hk]
 have hnew : ∀ i, i < ys.length -> (cur'.toList.drop ((d.length + i) * t.n)).take t.n = (vs.drop (i * t.n)).take t.n := by
  intro i hi
  have hmul : (i + 1) * t.n <= ys.length * t.n := Nat.mul_le_mul_right _ hi
  rw [Nat.add_mul, Nat.one_mul] at hmul
  apply List.ext_getElem?
  intro k
  rw [List.getElem?_take, List.getElem?_take]
  by_cases hk : k < t.n
  . rw [if_pos hk, if_pos hk, List.getElem?_drop, List.getElem?_drop, Nat.add_mul, hcell _ (by omega), List.getElem?_append_right (by rw [hxl]; omega), hxl]
    congr 1
    omega
  rw [if_neg hk, if_neg hk]
 refine ⟨g :: (fps ++ fs).flatten, ⟨.inr ⟨g, cap', cur', fps ++ fs, by simp, by simpa using hnc, hcm, hg', hcs, rfl, by simp [h7, e2], fun i y hy => ?_⟩, ?_⟩, ?_, hg.os, hg.tape, hg.output, hg.size, fun k hk hf => hkeep k hk (fun e => hf (by rw [e]; exact List.mem_cons_self))⟩
 . by_cases hi : i < d.length
   . rw [List.getElem?_append_left hi] at hy
     obtain ⟨f2, hf2, ho2⟩ := h8 i y hy
     refine ⟨f2, by rw [List.getElem?_append_left (by omega)]; exact hf2, ?_⟩
     rw [hseg i hi]
     refine t.owKept ho2 (fun c hc => hkeep c (t.rdLt (t.owRd ho2) c hc) (fun e => hbf ?_)) hg.size
     rw [← e]
     exact List.mem_flatten.2 ⟨f2, List.mem_of_getElem? hf2, hc⟩
   rw [List.getElem?_append_right (by omega)] at hy
   have hil := (List.getElem?_eq_some_iff.1 hy).1
   obtain ⟨f2, hf2, ho2⟩ := e4 (i - d.length) y hy
   refine ⟨f2, by rw [List.getElem?_append_right (by omega), h7]; exact hf2, ?_⟩
   have := hnew (i - d.length) hil
   rw [show d.length + (i - d.length) = i by omega] at this
   rw [this]
   refine t.owKept ho2 (fun c hc => ?_) hg.size
   have hcm' : c ∈ fs.flatten := List.mem_flatten.2 ⟨f2, List.mem_of_getElem? hf2, hc⟩
   exact hkeep c (hel c hcm') (fun e => hbx (e ▸ hcm'))
 . rw [hfl, List.nodup_cons]
   refine ⟨fun hm => ?_, ?_⟩
   . rcases List.mem_append.1 hm with hm | hm
     . rcases hgs with rfl | rfl
       . exact hbf hm
       have := hfplt _ hm
       omega
     rcases hgs with rfl | rfl
     . exact hbx hm
     have := hel _ hm
     omega
   rw [List.nodup_append]
   exact ⟨hnf, e3, fun a ha c hc e => hdis a (List.mem_cons_of_mem _ ha) (e ▸ hc)⟩
 intro c hc
 rw [hfl] at hc
 rcases List.mem_cons.1 hc with rfl | hc
 . rcases hgs with rfl | hgs
   . exact .inl List.mem_cons_self
   exact .inr (.inr ⟨hgs, hgl⟩)
 rcases List.mem_append.1 hc with hc | hc
 . exact .inl (List.mem_cons_of_mem _ hc)
 exact .inr (.inl hc)

theorem Elems.kept {t : Ty} {w w' : World} {vs : List Value} {ys : List t.D} {fs : List (List Nat)} {fp : List Nat} (h : Elems t w vs ys fs) (ht : Turned fp w w') (hd : ∀ b ∈ fs.flatten, b ∉ fp) : Elems t w' vs ys fs := by
 have hl := h.lt
 refine ⟨h.1, h.2.1, h.2.2.1, fun i y hy => ?_⟩
 obtain ⟨f, hf, ho⟩ := h.2.2.2 i y hy
 have hm : ∀ b ∈ f, b ∈ fs.flatten := fun b hb => List.mem_flatten.2 ⟨f, List.mem_of_getElem? hf, hb⟩
 exact ⟨f, hf, t.owKept ho (fun b hb => ht.block b (hl b (hm b hb)) (hd b (hm b hb))) ht.size⟩
theorem wpList_appN2 {P : Program} {w : World} {ops : Array Oper} {rest : List Oper} {o : Oper} {a : Act} {Q : Exit -> Act -> World -> Prop} (t : Ty) (hgd : o.guard = none) (s x : Operand) (T : TypeId)
 (ho : o.op = .call { callee := .builtin .append, args := #[s, x], argTypes := #[T, T] })
 (E : TypeId) (i : TypeInfo) (z : Value) (bytes : Nat) (ht : P.underlying T = some (.slice E)) (hi : P.info? E = some i) (hz : i.zero = some z)
 (hsize : i.size = t.n) (hby : i.bytes = bytes) (hzs : z.cells.size = t.n) (hsz : 0 < t.n)
 (b cap : Nat) (d : List t.D) (fp : List Nat) (hs : a.eval s = .slice (some ⟨b, 0, none⟩) d.length cap) (hown : (rowTy t E).Mine w [.slice (some ⟨b, 0, none⟩) d.length cap] d fp)
 (ad : Addr) (c : Nat) (vs : List Value) (ys : List t.D) (fs : List (List Nat)) (hx : a.eval x = .slice (some ad) ys.length c) (hy : Elems t w vs ys fs) (hdis : ∀ b ∈ fp, b ∉ fs.flatten) (hr : ∀ j u, vs[j]? = some u -> w.cell? (ad.add j) = some u) (h1 : ∀ u ∈ vs, u.oneCell' = true)
 (h63 : d.length + ys.length <= maxLen) (hbytes : (d.length + ys.length) * bytes <= 140737488355328)
 (h : ∀ g cap' w' fp', (rowTy t E).Mine w' [.slice (some ⟨g, 0, none⟩) (d.length + ys.length) cap'] (d ++ ys) fp' -> (∀ b ∈ fp', b ∈ fp ∨ b ∈ fs.flatten ∨ (b = w.heap.size /\ b < w'.heap.size)) -> Turned fp w w' -> wpList P ops Q rest (a.put o.dst (.slice (some ⟨g, 0, none⟩) (d.length + ys.length) cap')) w') : wpList P ops Q (o :: rest) a w := by
 obtain ⟨xs, hrow, hback⟩ := row_cellsN (lo := 0) hown (fun _ _ => Nat.zero_le _)
 refine wpList_append_own_at w hgd s x T ho 0 E i z t.n bytes ht hi hz hsize hby hzs hsz _ d.length xs hs hrow ad ys.length c vs hx hy.1 hr h1 h63 hbytes (Nat.zero_le _) ?_
 intro v' w' k1 k2 k3 k4
 obtain ⟨fp', m1, m2, m3⟩ := hback w' v' vs ys fs hy hdis k1 k2 k4
 rcases k1.2 with ⟨hv0, _⟩ | ⟨g, cap', _, hv', _⟩
 . simp at k3
   exact absurd hv0 k3
 subst hv'
 exact h g cap' w' fp' m1 m2 m3

theorem put_turned12 {w wr w1 w2 : World} {fT f fp : List Nat} {N : Nat} (hT : Turned fT w wr) (h1 : Below wr.heap.size wr w1) (h2 : Turned fp w1 w2) (hfp : ∀ b ∈ fp, b ∈ fT ∨ N <= b) (hN : w.heap.size <= N) : Turned (fT ++ f) w w2 :=
 ⟨h2.os.trans (h1.os.trans hT.os), h2.tape.trans (h1.tape.trans hT.tape), h2.output.trans (h1.output.trans hT.output), Nat.le_trans hT.size (Nat.le_trans h1.size h2.size), fun k hk hn => by
  have hk1 : k < wr.heap.size := Nat.lt_of_lt_of_le hk hT.size
  rw [h2.block k (Nat.lt_of_lt_of_le hk1 h1.size) (fun hm => by
   rcases hfp k hm with h | h
   . exact hn (List.mem_append_left _ h)
   omega), h1.block k hk1, hT.block k hk (fun hm => hn (List.mem_append_left _ hm))]⟩
theorem put_fp12 {w1 w2 : World} {fT f fp fp2 : List Nat} {N : Nat} (hfp : ∀ b ∈ fp, b ∈ fT ∨ N <= b) (h2 : ∀ b ∈ fp2, b ∈ fp ∨ b ∈ f ∨ (b = w1.heap.size /\ b < w2.heap.size)) (hN : N <= w1.heap.size) : ∀ b ∈ fp2, b ∈ fT ++ f ∨ N <= b := fun b hb => by
 rcases h2 b hb with h | h | h
 . rcases hfp b h with h | h
   . exact .inl (List.mem_append_left _ h)
   exact .inr h
 . exact .inl (List.mem_append_right _ h)
 exact .inr (by omega)
abbrev valTy : Ty where
 n := 1
 D := Value
 rd := fun _ vs d fp => vs = [d] /\ fp = []
 ow := fun _ vs d fp => vs = [d] /\ fp = []
 owRd := fun h => h
 rdLen := fun h => by rw [h.1]; rfl
 rdLt := fun h => by rw [h.2]; simp
 rdKept := fun h _ _ => h
 owKept := fun h _ _ => h
structure Part12 where
 a : Option Addr
 c : Nat
 vs : List Value
 ys : List Value
 fs : List (List Nat)
def catY12 (P : Nat -> Part12) : Nat -> List Value
 | 0 => []
 | j + 1 => catY12 P j ++ (P j).ys
def catF12 (P : Nat -> Part12) : Nat -> List (List Nat)
 | 0 => []
 | j + 1 => catF12 P j ++ (P j).fs
def PartAt12 (w : World) (p : Part12) : Prop :=
 Elems valTy w p.vs p.ys p.fs /\ (∀ u ∈ p.vs, u.oneCell' = true) /\ ((p.a = none /\ p.ys = []) ∨ ∃ ad, p.a = some ad /\ ∀ j u, p.vs[j]? = some u -> w.cell? (ad.add j) = some u)
theorem catY_le12 (P : Nat -> Part12) {m : Nat} : ∀ j, j <= m -> (catY12 P j).length <= (catY12 P m).length := by
 induction m with
 | zero => intro j hj; rw [show j = 0 by omega]; exact Nat.le_refl _
 | succ m ih =>
  intro j hj
  by_cases h : j = m + 1
  . rw [h]; exact Nat.le_refl _
  have := ih j (by omega)
  simp only [catY12, List.length_append]
  omega
theorem catF_nodup12 (P : Nat -> Part12) {m : Nat} (h : (catF12 P m).flatten.Nodup) : ∀ j, j <= m -> (catF12 P j).flatten.Nodup := by
 induction m with
 | zero => intro j hj; rw [show j = 0 by omega]; exact h
 | succ m ih =>
  intro j hj
  by_cases hjm : j = m + 1
  . rw [hjm]; exact h
  refine ih ?_ j (by omega)
  simp only [catF12, List.flatten_append, List.nodup_append] at h
  exact h.1
theorem catF_in12 (P : Nat -> Part12) {m : Nat} : ∀ j, j <= m -> ∀ b ∈ (catF12 P j).flatten, b ∈ (catF12 P m).flatten := by
 induction m with
 | zero => intro j hj b hb; rw [show j = 0 by omega] at hb; exact hb
 | succ m ih =>
  intro j hj b hb
  by_cases hjm : j = m + 1
  . rw [← hjm]; exact hb
  simp only [catF12, List.flatten_append, List.mem_append]
  exact .inl (ih j (by omega) b hb)

def Catted12 (P : Nat -> Part12) (m : Nat) (w : World) (e : Ending) (w' : World) : Prop := ∃ g c' fp', e = .returned (.slice (some ⟨g, 0, none⟩) (catY12 P m).length c') /\ (rowTy valTy 72).Mine w' [.slice (some ⟨g, 0, none⟩) (catY12 P m).length c'] (catY12 P m) fp' /\ (∀ b ∈ fp', b ∈ (catF12 P m).flatten ∨ w.heap.size <= b) /\ Turned (catF12 P m).flatten w w'
theorem room_mine12 {t : Ty} {E : TypeId} {w : World} {cur : Array Value} {G : Nat} (hs : cur.size = G * t.n) (hG : G <= 9223372036854775807) : (rowTy t E).Mine (w.alloc (.cells cur E)) [.slice (some ⟨w.heap.size, 0, none⟩) 0 G] [] [w.heap.size] :=
 ⟨.inr ⟨w.heap.size, G, cur, [], rfl, Nat.zero_le _, hG, Box.new w E cur, hs, rfl, rfl, fun i x hx => by simp at hx⟩, by simp⟩

theorem concat12_any (w : World) (P : Nat -> Part12) (B m : Nat) (hB : ∀ j, j < m -> w.cell? ⟨B, j, none⟩ = some (.slice (P j).a (P j).ys.length (P j).c)) (hP : ∀ j, j < m -> PartAt12 w (P j)) (hn : (catF12 P m).flatten.Nodup) (hBl : B < w.heap.size)
 (hBF : B ∉ (catF12 P m).flatten) (haF : ∀ j, j < m -> ∀ ad, (P j).a = some ad -> ad.block ∉ (catF12 P m).flatten) (hal : ∀ j, j < m -> ∀ ad, (P j).a = some ad -> ad.block < w.heap.size) (hL : 0 < (catY12 P m).length) (hL2 : (catY12 P m).length <= 600000) (hm : m <= 3) :
 Calls Tryz.prog 56 #[.slice (some ⟨B, 0, none⟩) m m] w fun e w' => Catted12 P m w e w' := by
 obtain ⟨i4, hi4, hz0, hz1, hz2⟩ := info_parts Tryz.infoStep
 have HBC := hidden hB
 have HP := hidden hP
 have HNF := hidden hn
 have HBF := hidden hBF
 have HAF := hidden haF
 have HAL := hidden hal
 clear hB hP hn hBF haF hal
 go_enter Tryz.func56, Tryz.ntmps56
 go_wp2
 go_loopw [3, 11] (fun sv iv wr => ∃ j : Nat, j <= m /\ iv = .int .i64 j /\ sv = .int .i64 ((catY12 P j).length : Nat) /\ wr = w) (fun _ iv _ => m - (intOf iv).toNat)
 case atStart => exact ⟨0, Nat.zero_le _, rfl, rfl, rfl⟩
 obtain ⟨j, hj, rfl, rfl, hwr⟩ := hrel
 subst wr
 by_cases hjm : j < m
 . have hc := HBC.out j hjm
   have hle := catY_le12 P (m := m) (j + 1) (by omega)
   have hs : (catY12 P (j + 1)).length = (catY12 P j).length + (P j).ys.length := by simp [catY12]
   have k1 : (0 : Int) <= (j : Int) := by omega
   have k2 : (j : Int) < (m : Int) := by omega
   obtain ⟨u, hu⟩ : ∃ u, (catY12 P (j + 1)).length = u := ⟨_, rfl⟩
   have HU := hidden hu
   rw [hu] at hs hle
   generalize (P j).ys.length = n at hc hs
   generalize (catY12 P j).length = q at hs ⊢
   have gw : IntKind.i64.wrap ((q : Int) + (n : Int)) = (u : Int) := by rw [IntWalk.i64_in _ (by omega)]; omega
   have nn : ¬ (u : Int) < 0 := by omega
   clear hs hle hu
   go_wp2
   go_roundw
   case rel => exact ⟨j + 1, by omega, by go_num, by rw [HU.out], by first | rfl | trivial⟩
   case measure => simp [intOf]; omega
 have ej : j = m := by omega
 subst ej
 have k2 : ¬ (j : Int) < (j : Int) := by omega
 obtain ⟨n, hn⟩ : ∃ n, (catY12 P j).length = n := ⟨_, rfl⟩
 have HN := hidden hn
 rw [hn] at hL hL2 ⊢
 clear hn
 go_wp2_with fail
 refine (Any8.slices_Grow_grow growLays12 i4 .nilFunc hi4 hz0 (by rw [hz1]; exact Nat.zero_lt_one) none 0 0 n [] w (Nat.le_refl _) (by omega) (by rw [hz2]; omega) (by omega) (by rw [hz1]; rfl) (fun _ => rfl) (fun a ha => by cases ha)).mono ?_
 rintro e w2 ⟨rfl, hw2⟩
 have hge := grownCap_ge w (0 + n) 0 72
 have hgm := grownCap_le_maxLen w (0 + n) 0 72 (by unfold maxLen; omega)
 have hgr : growRen12.t 25 = 72 := rfl
 rw [hgr] at hw2 ⊢
 generalize grownCap w (0 + n) 0 72 = G at hge hgm hw2 ⊢
 unfold maxLen at hgm
 have M0 : (rowTy valTy 72).Mine w2 [.slice (some ⟨w.heap.size, 0, none⟩) 0 G] [] [w.heap.size] := by
  rw [hw2]
  exact room_mine12 (w := w.drew) (by simp only [Array.size_append, List.size_toArray, size_zeroCells, Value.cells]; simp; omega) hgm
 have T0 : Turned [] w w2 := by rw [hw2]; exact Turned.ofBelow (((Below.refl w.heap.size w).drew).alloc (Nat.le_refl _) _) []
 have HM0 := hidden M0
 have HT0 := hidden T0
 clear M0 T0 hw2 hge hgr
 have hNB : w.heap.size <= w2.heap.size := HT0.out.size
 go_wp2
 go_loopw [6, 27] (fun nv iv wq => ∃ (q g cap : Nat) (fp : List Nat), q <= j /\ iv = .int .i64 q /\ nv = .slice (some ⟨g, 0, none⟩) (catY12 P q).length cap /\ (rowTy valTy 72).Mine wq [.slice (some ⟨g, 0, none⟩) (catY12 P q).length cap] (catY12 P q) fp /\ (∀ b ∈ fp, b ∈ (catF12 P q).flatten ∨ w.heap.size <= b) /\ Turned (catF12 P q).flatten w wq) (fun _ iv _ => j - (intOf iv).toNat)
 case atStart => exact ⟨0, w.heap.size, G, [w.heap.size], Nat.zero_le _, rfl, rfl, HM0.out, fun b hb => .inr (by simp at hb; omega), HT0.out⟩
 obtain ⟨q, g, cap, fp, hq, rfl, rfl, hMi, hfp, hT⟩ := hrel
 by_cases hqj : q < j
 . have PF : Hid (∀ b ∈ (catF12 P q).flatten, b ∉ (P q).fs.flatten) := fun b hb hb' => by
    have := catF_nodup12 P HNF.out (q + 1) (by omega)
    simp only [catF12, List.flatten_append, List.nodup_append] at this
    exact this.2.2 b hb b hb' rfl
   have hBq : B ∉ (catF12 P q).flatten := fun hm => HBF.out (catF_in12 P q (by omega) B hm)
   have hc := (cell_kept (hT.block B hBl hBq) q).trans (HBC.out q hqj)
   obtain ⟨pe, po, pa⟩ := HP.out q hqj
   have hel := pe.lt
   have hle : (catY12 P (q + 1)).length <= n := by rw [← HN.out]; exact catY_le12 P (m := j) (q + 1) (by omega)
   have hs : (catY12 P (q + 1)).length = (catY12 P q).length + (P q).ys.length := by simp [catY12]
   have E1 := hidden (pe.kept hT (fun b hb hm => PF.out b hm hb))
   have DJ : Hid (∀ b ∈ fp, b ∉ (P q).fs.flatten) := fun b hb hb' => by
    rcases hfp b hb with h | h
    . exact PF.out b h hb'
    have := hel b hb'; omega
   have L1 : Hid ((catY12 P q).length + (P q).ys.length <= maxLen) := by unfold Hid maxLen; omega
   have L2 : Hid (((catY12 P q).length + (P q).ys.length) * 8 <= 140737488355328) := by unfold Hid; omega
   have k1 : (0 : Int) <= (q : Int) := by omega
   have k2 : (q : Int) < (j : Int) := by omega
   have PO := hidden po
   have MI := hidden hMi
   have FP := hidden hfp
   have HT := hidden hT
   have hcap := (row_length hMi.rd).2.1
   rcases pa with ⟨pa, py⟩ | ⟨ad, pa, pc⟩
   . have HY : Hid (catY12 P (q + 1) = catY12 P q /\ (catF12 P (q + 1)).flatten = (catF12 P q).flatten) := by
      have h0 : (P q).fs = [] := List.eq_nil_of_length_eq_zero (by rw [pe.2.1, py]; rfl)
      unfold Hid
      simp [catY12, catF12, py, h0]
     rw [pa, py] at hc
     clear pe po hMi hfp hT hs hle pa py hel L1 L2 DJ E1 PF
     generalize hYL : (catY12 P q).length = yl at hcap MI ⊢
     have HYL := hidden hYL
     clear hYL
     go_wp2
     go_roundw
     case rel => exact ⟨q + 1, g, cap, fp, by omega, by go_num, by rw [HY.out.1, HYL.out], by rw [HY.out.1, HYL.out]; exact MI.out, by rw [HY.out.2]; exact FP.out, by rw [HY.out.2]; exact HT.out⟩
     case measure => simp [intOf]; omega
   rw [pa] at hc
   have hab : ad.block ∉ (catF12 P q).flatten := fun hm => HAF.out q hqj ad pa (catF_in12 P q (by omega) _ hm)
   have R1 : Hid (∀ k u, (P q).vs[k]? = some u -> wr.cell? (ad.add k) = some u) := fun k u hu => by
    have h := pc k u hu
    have hbk : (ad.add k).block = ad.block := by unfold Addr.add; split <;> rfl
    rw [← h]
    exact World.cell?_of_block (by rw [hbk]; exact HT.out.block _ (HAL.out q hqj ad pa) hab)
   have HY : Hid (catY12 P (q + 1) = catY12 P q ++ (P q).ys /\ (catF12 P (q + 1)).flatten = (catF12 P q).flatten ++ (P q).fs.flatten) := by
    unfold Hid
    simp [catY12, catF12]
   have HS := hidden hs
   clear pe po hMi hfp hT hs hle pa hel hcap pc hab PF
   go_wp2_with (at_builtin; refine wpList_appN2 valTy rfl _ _ 70 rfl 72 i4 .nilFunc 8 Tryz.underlying70 hi4 hz0 hz1 hz2 rfl Nat.zero_lt_one g cap (catY12 P q) fp rfl MI.out ad (P q).c (P q).vs (P q).ys (P q).fs rfl E1.out DJ.out R1.out PO.out L1.out L2.out ?_; intro g5 c5 w5 fp5 m1 m2 m3; have MO := hidden m1; have O2 := hidden m2; have O3 := hidden m3; clear m1 m2 m3)
   have hz5 := O3.out.size
   have T5 : Hid (Turned (catF12 P (q + 1)).flatten w w5) := by
    unfold Hid
    rw [HY.out.2]
    exact put_turned12 (f := (P q).fs.flatten) HT.out (Below.refl _ _) O3.out FP.out (Nat.le_refl _)
   have F5 : Hid (∀ b ∈ fp5, b ∈ (catF12 P (q + 1)).flatten ∨ w.heap.size <= b) := by
    unfold Hid
    rw [HY.out.2]
    exact put_fp12 (fT := (catF12 P q).flatten) (f := (P q).fs.flatten) FP.out O2.out HT.out.size
   go_wp2
   go_roundw
   case rel => exact ⟨q + 1, g5, c5, fp5, by omega, by go_num, by rw [HS.out], by rw [HS.out, HY.out.1]; exact MO.out, F5.out, T5.out⟩
   case measure => simp [intOf]; omega
 have e : q = j := by omega
 subst e
 have k2 : ¬ (q : Int) < (q : Int) := by omega
 have MI := hidden hMi
 have FP := hidden hfp
 have HT := hidden hT
 clear hMi hfp hT
 go_wp2
 go_ret
 exact ⟨g, cap, fp, rfl, MI.out, FP.out, HT.out⟩

theorem row_mem12 {t : Ty} {E : TypeId} {w : World} {g n cap : Nat} {d : List t.D} {fp : List Nat} (h : (rowTy t E).Mine w [.slice (some ⟨g, 0, none⟩) n cap] d fp) : g ∈ fp := by
 obtain ⟨h, _⟩ := h
 rcases h with ⟨h1, _⟩ | ⟨b, cap', cur, fps, h1, _, _, _, _, hf, _⟩
 . simp at h1
 simp at h1
 rw [hf, h1.1]
 simp

theorem val_at {w : World} {E : TypeId} {g n cap k : Nat} {ys : List Value} {v : Value} {fo : List Nat} (h : (rowTy valTy E).Mine w [.slice (some ⟨g, 0, none⟩) n cap] ys fo) (hk : ys[k]? = some v) : w.cell? ⟨g, k, none⟩ = some v /\ g < w.heap.size := by
 obtain ⟨h, _⟩ := h
 rcases h with ⟨h1, _, _⟩ | ⟨b, cap', cur, fps, h1, h2, h3, h4, h5, h6, h7, h8⟩
 . simp at h1
 simp only [List.cons.injEq, Value.slice.injEq, Option.some.injEq, Addr.mk.injEq, and_true] at h1
 obtain ⟨rfl, _, rfl⟩ := h1
 obtain ⟨f, _, hv, _⟩ := h8 k v hk
 refine ⟨?_, (Array.getElem?_eq_some_iff.1 h4).1⟩
 rw [cell_of_row w g _ cur _ (0, 0) h4]
 have : ((cur.toList.drop (k * 1)).take 1)[0]? = some v := by rw [hv]; rfl
 rw [List.getElem?_take, if_pos (by omega), List.getElem?_drop] at this
 simpa using this
def rowP (g n : Nat) (v : Value) : Part12 := ⟨some ⟨g, 0, none⟩, n, List.replicate n v, List.replicate n v, List.replicate n []⟩
theorem rowP_at {w : World} {g n : Nat} {v : Value} (h1 : v.oneCell' = true) (h : ∀ j, j < n -> w.cell? ⟨g, j, none⟩ = some v) : PartAt12 w (rowP g n v) := by
 refine ⟨⟨by simp [rowP], by simp [rowP], by simp [rowP], fun i y hy => ?_⟩, fun u hu => ?_, .inr ⟨_, rfl, fun j u hu => ?_⟩⟩
 . have hi := (List.getElem?_eq_some_iff.1 hy).1
   simp only [rowP, List.length_replicate] at hi
   simp only [rowP] at hy ⊢
   rw [List.getElem?_replicate, if_pos hi] at hy
   cases hy
   refine ⟨[], by rw [List.getElem?_replicate, if_pos hi], ?_, rfl⟩
   rw [Nat.mul_one, List.drop_replicate, List.take_replicate]
   rw [show min 1 (n - i) = 1 by omega]
   rfl
 . simp only [rowP] at hu
   rw [(List.mem_replicate.1 hu).2]
   exact h1
 have hi := (List.getElem?_eq_some_iff.1 hu).1
 simp only [rowP, List.length_replicate] at hi
 simp only [rowP] at hu
 rw [List.getElem?_replicate, if_pos hi] at hu
 cases hu
 rw [add12]
 exact h j hi
theorem rowP_one {w : World} {g : Nat} {v : Value} (h1 : v.oneCell' = true) (h : w.cell? ⟨g, 0, none⟩ = some v) : PartAt12 w (rowP g 1 v) := rowP_at h1 (fun j hj => by
 obtain rfl : j = 0 := by omega
 exact h)
def ballP (g0 g1 g2 n : Nat) (vS vN vA : Value) : Nat -> Part12
 | 0 => rowP g0 1 vS
 | 1 => rowP g1 n vN
 | _ => rowP g2 1 vA
theorem ballP_flat (g0 g1 g2 n : Nat) (vS vN vA : Value) : (catF12 (ballP g0 g1 g2 n vS vN vA) 3).flatten = [] := by simp [catF12, ballP, rowP]
theorem ballP_ys (g0 g1 g2 n : Nat) (vS vN vA : Value) : catY12 (ballP g0 g1 g2 n vS vN vA) 3 = vS :: (List.replicate n vN ++ [vA]) := by simp [catY12, ballP, rowP]

theorem implBuildAll_any (w : World) (E F G : TypeId) (x : ArrN) (am ad : Option Addr) (nm cm nd cd : Nat) (ms : List MemD) (ds : List (Int × List Int)) (h0 : (tMemS E F).Rd w [.slice am nm cm] ms) (h1 : (tWrS G).Rd w [.slice ad nd cd] ds) (hw2 : wtArr ms ds <= 2000000) :
 Calls Tryz.prog 22 #[.agg #[.int .i64 x.id, .int .i64 x.n, .int .i64 x.s, .slice am nm cm, .int .i64 x.lost, .int .i64 x.built, .int .i64 x.seq, .int .i64 x.tail, .int .i64 x.gen, .slice ad nd cd, .int .i64 x.fuse, .bool x.down, .bool x.broken]] w fun e w' => ArrOutC w w' e (ballO x ms ds) (ballC x ms ds) ds := by
 obtain ⟨rfl, _⟩ := row_length h0
 obtain ⟨rfl, _⟩ := row_length h1
 have hw : wtArr ms ds <= 2097152 := by omega
 have hds : wtWrS ds <= 2000000 := by unfold wtArr at hw2; omega
 have hA := (new_below w (.cells #[.int .i64 x.id, .int .i64 x.n, .int .i64 x.s, .slice am ms.length cm, .int .i64 x.lost, .int .i64 x.built, .int .i64 x.seq, .int .i64 x.tail, .int .i64 x.gen, .slice ad ds.length cd, .int .i64 x.fuse, .bool x.down, .bool x.broken] 33)).alloc (by simp) (.cells #[.int .i64 0, .int .i64 0, .int .i64 0, .slice none 0 0, .int .i64 0, .int .i64 0, .int .i64 0, .int .i64 0, .int .i64 0, .slice none 0 0, .int .i64 0, .bool false, .bool false] 33)
 have X0 : Box ((w.alloc (.cells #[.int .i64 x.id, .int .i64 x.n, .int .i64 x.s, .slice am ms.length cm, .int .i64 x.lost, .int .i64 x.built, .int .i64 x.seq, .int .i64 x.tail, .int .i64 x.gen, .slice ad ds.length cd, .int .i64 x.fuse, .bool x.down, .bool x.broken] 33)).alloc (.cells #[.int .i64 0, .int .i64 0, .int .i64 0, .slice none 0 0, .int .i64 0, .int .i64 0, .int .i64 0, .int .i64 0, .int .i64 0, .slice none 0 0, .int .i64 0, .bool false, .bool false] 33)) w.heap.size 33 #[.int .i64 x.id, .int .i64 x.n, .int .i64 x.s, .slice am ms.length cm, .int .i64 x.lost, .int .i64 x.built, .int .i64 x.seq, .int .i64 x.tail, .int .i64 x.gen, .slice ad ds.length cd, .int .i64 x.fuse, .bool x.down, .bool x.broken] := (Box.new w _ _).alloc _
 have R0 := Box.new (w.alloc (.cells #[.int .i64 x.id, .int .i64 x.n, .int .i64 x.s, .slice am ms.length cm, .int .i64 x.lost, .int .i64 x.built, .int .i64 x.seq, .int .i64 x.tail, .int .i64 x.gen, .slice ad ds.length cd, .int .i64 x.fuse, .bool x.down, .bool x.broken] 33)) 33 #[.int .i64 0, .int .i64 0, .int .i64 0, .slice none 0 0, .int .i64 0, .int .i64 0, .int .i64 0, .int .i64 0, .int .i64 0, .slice none 0 0, .int .i64 0, .bool false, .bool false]
 rw [World.size_alloc] at R0
 have zX := X0.lt
 have zR := R0.lt
 have r0 := h0.below hA
 have r1 := h1.below hA
 have hzW : ((w.alloc (.cells #[.int .i64 x.id, .int .i64 x.n, .int .i64 x.s, .slice am ms.length cm, .int .i64 x.lost, .int .i64 x.built, .int .i64 x.seq, .int .i64 x.tail, .int .i64 x.gen, .slice ad ds.length cd, .int .i64 x.fuse, .bool x.down, .bool x.broken] 33)).alloc (.cells #[.int .i64 0, .int .i64 0, .int .i64 0, .slice none 0 0, .int .i64 0, .int .i64 0, .int .i64 0, .int .i64 0, .int .i64 0, .slice none 0 0, .int .i64 0, .bool false, .bool false] 33)).heap.size = w.heap.size + 1 + 1 := by simp
 obtain ⟨k0, k1, k2, k3, k4, k5, k6, k7, k8, k9, k10, k11, k12⟩ := X0.cells13
 have hmf : ∀ (fn : Fn) (first cap : Array Value) (w : World), (Instr.makeFunc fn first cap).run Tryz.prog w = .ok (.func fn first cap) w := fun _ _ _ _ => rfl
 go_enter Tryz.func22, Tryz.ntmps22
 go_wp2_with fail
 generalize (w.alloc (.cells #[.int .i64 x.id, .int .i64 x.n, .int .i64 x.s, .slice am ms.length cm, .int .i64 x.lost, .int .i64 x.built, .int .i64 x.seq, .int .i64 x.tail, .int .i64 x.gen, .slice ad ds.length cd, .int .i64 x.fuse, .bool x.down, .bool x.broken] 33)).alloc (.cells #[.int .i64 0, .int .i64 0, .int .i64 0, .slice none 0 0, .int .i64 0, .int .i64 0, .int .i64 0, .int .i64 0, .int .i64 0, .slice none 0 0, .int .i64 0, .bool false, .bool false] 33) = W at hA X0 R0 zX zR r0 r1 hzW k0 k1 k2 k3 k4 k5 k6 k7 k8 k9 k10 k11 k12 ⊢
 obtain ⟨BR, hBR⟩ : ∃ BR, w.heap.size + 1 = BR := ⟨_, rfl⟩
 rw [hBR] at R0 zR hzW ⊢
 have q1 : w.heap.size + 1 <= BR /\ BR + 1 <= W.heap.size /\ W.heap.size <= BR + 1 := by omega
 clear hBR hzW
 refine (buildOf_any _ E F G x _ _ _ _ _ _ ms ds r0 r1 hw).mono ?_
 rintro e w1 ⟨B, fm, fd, rfl, hB, zB, rm, rd, b1⟩
 have R1 := R0.below b1 zR
 have B1 := Below.andThen hA b1
 have z1 := b1.size
 have hBl : B < w1.heap.size := by obtain ⟨_, _, _, _, X, _⟩ := hB; exact X.lt
 have X1 := X0.below b1 zX
 have bn := new_below w1 (.cells #[Value.func (Fn.func 51) #[.pointer (some ⟨B, 0, none⟩)] #[]] 72)
 have S1 := Box.new w1 72 #[Value.func (Fn.func 51) #[.pointer (some ⟨B, 0, none⟩)] #[]]
 have X2 := X1.below bn (by omega)
 have R2 := R1.below bn (by omega)
 have B2 := Below.andThen B1 bn
 have hB2 := hB.turned bn
 have hc2 : (w1.alloc (.cells #[Value.func (Fn.func 51) #[.pointer (some ⟨B, 0, none⟩)] #[]] 72)).cell? ⟨w1.heap.size, 0, none⟩ = some (Value.func (Fn.func 51) #[.pointer (some ⟨B, 0, none⟩)] #[]) := (S1.cell 0).trans rfl
 have zS1 := S1.lt
 have HR : Hid ((∀ b ∈ fm, W.heap.size <= b) /\ ∀ b ∈ fd, W.heap.size <= b) := ⟨rm, rd⟩
 clear k0 k1 k2 k3 k4 k5 k6 k7 k8 k9 k10 k11 k12 X0 R0 R1 B1 X1 b1 bn hA r0 r1 hB S1 rm rd
 obtain ⟨k0, k1, k2, k3, k4, k5, k6, k7, k8, k9, k10, k11, k12⟩ := X2.cells13
 go_wp2_with fail
 generalize w1.alloc (.cells #[Value.func (Fn.func 51) #[.pointer (some ⟨B, 0, none⟩)] #[]] 72) = w2 at X2 R2 B2 hB2 hc2 zS1 k0 k1 k2 k3 k4 k5 k6 k7 k8 k9 k10 k11 k12 ⊢
 obtain ⟨gN, hgN⟩ : ∃ gN, w1.heap.size = gN := ⟨_, rfl⟩
 have hgN2 : W.heap.size <= gN /\ B < gN := by omega
 rw [hgN] at hc2 zS1 ⊢
 clear hgN
 refine (stripesOf_any _ x.n x.s).mono ?_
 rintro e w3 ⟨rfl, b3⟩
 have R3 := R2.below b3 R2.lt
 have B3 := Below.andThen B2 b3
 have hB3 := hB2.turned b3
 have hc3 := (b3.cell (p := ⟨gN, 0, none⟩) zS1).trans hc2
 have z3 := b3.size
 have HV : Hid (ballO x ms ds = (runT (ballL (strN x.n x.s).toNat ds) (x, ms)).1 /\ ballC x ms ds = (runT (ballL (strN x.n x.s).toNat ds) (x, ms)).2) := ⟨rfl, rfl⟩
 obtain ⟨n, hn, hn8⟩ : ∃ n : Nat, strN x.n x.s = (n : Int) /\ n <= 8 := by
  cases hg : geoB x.n x.s
  . exact ⟨0, strN_not hg, by omega⟩
  have := geoB_iff.1 hg
  exact ⟨x.s.toNat, by rw [strN_of hg]; omega, by omega⟩
 rw [hn] at HV ⊢
 rw [Int.toNat_natCast] at HV
 clear k0 k1 k2 k3 k4 k5 k6 k7 k8 k9 k10 k11 k12 X2 R2 B2 hB2 hc2 b3 hn
 go_wp2_with fail
 refine (repeat_any _ gN (Value.func (Fn.func 51) #[.pointer (some ⟨B, 0, none⟩)] #[]) rfl hc3 (by omega) n hn8).mono ?_
 rintro e w4 ⟨g2, rfl, hg2, hg2l, hrow, b4⟩
 have R4 := R3.below b4 R3.lt
 have B4 := Below.andThen B3 b4
 have hB4 := hB3.turned b4
 have z4 := b4.size
 clear R3 B3 hB3 hc3 b4
 have bn5 := new_below w4 (.cells #[Value.func (Fn.func 49) #[.pointer (some ⟨B, 0, none⟩)] #[]] 72)
 have S5 := Box.new w4 72 #[Value.func (Fn.func 49) #[.pointer (some ⟨B, 0, none⟩)] #[]]
 have zz5 : (w4.alloc (.cells #[Value.func (Fn.func 49) #[.pointer (some ⟨B, 0, none⟩)] #[]] 72)).heap.size = w4.heap.size + 1 := by simp
 have bn6 := new_below (w4.alloc (.cells #[Value.func (Fn.func 49) #[.pointer (some ⟨B, 0, none⟩)] #[]] 72)) (.cells #[Value.func (Fn.func 53) #[.pointer (some ⟨B, 0, none⟩)] #[]] 72)
 have S6 := Box.new (w4.alloc (.cells #[Value.func (Fn.func 49) #[.pointer (some ⟨B, 0, none⟩)] #[]] 72)) 72 #[Value.func (Fn.func 53) #[.pointer (some ⟨B, 0, none⟩)] #[]]
 have zz6 : ((w4.alloc (.cells #[Value.func (Fn.func 49) #[.pointer (some ⟨B, 0, none⟩)] #[]] 72)).alloc (.cells #[Value.func (Fn.func 53) #[.pointer (some ⟨B, 0, none⟩)] #[]] 72)).heap.size = w4.heap.size + 2 := by simp
 have bn7 := new_below ((w4.alloc (.cells #[Value.func (Fn.func 49) #[.pointer (some ⟨B, 0, none⟩)] #[]] 72)).alloc (.cells #[Value.func (Fn.func 53) #[.pointer (some ⟨B, 0, none⟩)] #[]] 72)) (.cells #[.slice (some ⟨w4.heap.size, 0, none⟩) 1 1, .slice (some ⟨g2, 0, none⟩) n n, .slice (some ⟨w4.heap.size + 1, 0, none⟩) 1 1] 70)
 have S7 := Box.new ((w4.alloc (.cells #[Value.func (Fn.func 49) #[.pointer (some ⟨B, 0, none⟩)] #[]] 72)).alloc (.cells #[Value.func (Fn.func 53) #[.pointer (some ⟨B, 0, none⟩)] #[]] 72)) 70 #[.slice (some ⟨w4.heap.size, 0, none⟩) 1 1, .slice (some ⟨g2, 0, none⟩) n n, .slice (some ⟨w4.heap.size + 1, 0, none⟩) 1 1]
 rw [zz5] at S6
 rw [zz6] at S7
 have b67 := Below.andThen bn6 bn7
 have b57 := Below.andThen bn5 b67
 have S5' := S5.below b67 (by omega)
 have S6' := S6.below bn7 (by omega)
 have hB7 := hB4.turned b57
 have R7 := R4.below b57 R4.lt
 have B7 := Below.andThen B4 b57
 have hrow7 : ∀ j, j < n -> (((w4.alloc (.cells #[Value.func (Fn.func 49) #[.pointer (some ⟨B, 0, none⟩)] #[]] 72)).alloc (.cells #[Value.func (Fn.func 53) #[.pointer (some ⟨B, 0, none⟩)] #[]] 72)).alloc (.cells #[.slice (some ⟨w4.heap.size, 0, none⟩) 1 1, .slice (some ⟨g2, 0, none⟩) n n, .slice (some ⟨w4.heap.size + 1, 0, none⟩) 1 1] 70)).cell? ⟨g2, j, none⟩ = some (Value.func (Fn.func 51) #[.pointer (some ⟨B, 0, none⟩)] #[]) := fun j hj => (b57.cell (p := ⟨g2, j, none⟩) hg2l).trans (hrow j hj)
 have hP0 : PartAt12 (((w4.alloc (.cells #[Value.func (Fn.func 49) #[.pointer (some ⟨B, 0, none⟩)] #[]] 72)).alloc (.cells #[Value.func (Fn.func 53) #[.pointer (some ⟨B, 0, none⟩)] #[]] 72)).alloc (.cells #[.slice (some ⟨w4.heap.size, 0, none⟩) 1 1, .slice (some ⟨g2, 0, none⟩) n n, .slice (some ⟨w4.heap.size + 1, 0, none⟩) 1 1] 70)) (rowP w4.heap.size 1 (Value.func (Fn.func 49) #[.pointer (some ⟨B, 0, none⟩)] #[])) := rowP_one rfl ((S5'.cell 0).trans rfl)
 have hP2 : PartAt12 (((w4.alloc (.cells #[Value.func (Fn.func 49) #[.pointer (some ⟨B, 0, none⟩)] #[]] 72)).alloc (.cells #[Value.func (Fn.func 53) #[.pointer (some ⟨B, 0, none⟩)] #[]] 72)).alloc (.cells #[.slice (some ⟨w4.heap.size, 0, none⟩) 1 1, .slice (some ⟨g2, 0, none⟩) n n, .slice (some ⟨w4.heap.size + 1, 0, none⟩) 1 1] 70)) (rowP (w4.heap.size + 1) 1 (Value.func (Fn.func 53) #[.pointer (some ⟨B, 0, none⟩)] #[])) := rowP_one rfl ((S6'.cell 0).trans rfl)
 have hP1 : PartAt12 (((w4.alloc (.cells #[Value.func (Fn.func 49) #[.pointer (some ⟨B, 0, none⟩)] #[]] 72)).alloc (.cells #[Value.func (Fn.func 53) #[.pointer (some ⟨B, 0, none⟩)] #[]] 72)).alloc (.cells #[.slice (some ⟨w4.heap.size, 0, none⟩) 1 1, .slice (some ⟨g2, 0, none⟩) n n, .slice (some ⟨w4.heap.size + 1, 0, none⟩) 1 1] 70)) (rowP g2 n (Value.func (Fn.func 51) #[.pointer (some ⟨B, 0, none⟩)] #[])) := rowP_at rfl hrow7
 have z7 : (((w4.alloc (.cells #[Value.func (Fn.func 49) #[.pointer (some ⟨B, 0, none⟩)] #[]] 72)).alloc (.cells #[Value.func (Fn.func 53) #[.pointer (some ⟨B, 0, none⟩)] #[]] 72)).alloc (.cells #[.slice (some ⟨w4.heap.size, 0, none⟩) 1 1, .slice (some ⟨g2, 0, none⟩) n n, .slice (some ⟨w4.heap.size + 1, 0, none⟩) 1 1] 70)).heap.size = w4.heap.size + 3 := by simp
 have HCC := hidden (concat12_any (((w4.alloc (.cells #[Value.func (Fn.func 49) #[.pointer (some ⟨B, 0, none⟩)] #[]] 72)).alloc (.cells #[Value.func (Fn.func 53) #[.pointer (some ⟨B, 0, none⟩)] #[]] 72)).alloc (.cells #[.slice (some ⟨w4.heap.size, 0, none⟩) 1 1, .slice (some ⟨g2, 0, none⟩) n n, .slice (some ⟨w4.heap.size + 1, 0, none⟩) 1 1] 70)) (ballP w4.heap.size g2 (w4.heap.size + 1) n (Value.func (Fn.func 49) #[.pointer (some ⟨B, 0, none⟩)] #[]) (Value.func (Fn.func 51) #[.pointer (some ⟨B, 0, none⟩)] #[]) (Value.func (Fn.func 53) #[.pointer (some ⟨B, 0, none⟩)] #[])) (w4.heap.size + 2) 3 (fun j hj => by
  rcases (show j = 0 ∨ j = 1 ∨ j = 2 by omega) with rfl | rfl | rfl
  . exact (S7.cell 0).trans rfl
  . refine (S7.cell 1).trans ?_
    simp [ballP, rowP]
  . exact (S7.cell 2).trans rfl) (fun j hj => by
  rcases (show j = 0 ∨ j = 1 ∨ j = 2 by omega) with rfl | rfl | rfl
  . exact hP0
  . exact hP1
  . exact hP2) (by rw [ballP_flat]; exact List.nodup_nil) S7.lt (by rw [ballP_flat]; simp) (fun j hj ad had => by rw [ballP_flat]; simp) (fun j hj ad had => by
  rcases (show j = 0 ∨ j = 1 ∨ j = 2 by omega) with rfl | rfl | rfl
  . simp only [ballP, rowP, Option.some.injEq] at had; subst had; dsimp only; omega
  . simp only [ballP, rowP, Option.some.injEq] at had; subst had; dsimp only; omega
  simp only [ballP, rowP, Option.some.injEq] at had; subst had; dsimp only; omega) (by rw [ballP_ys]; simp) (by rw [ballP_ys]; simp; omega) (Nat.le_refl _))
 have zg : gN < w4.heap.size /\ W.heap.size <= w4.heap.size /\ B < w4.heap.size := by omega
 clear hP0 hP1 hP2 hrow hrow7 S5 S6 S7 S5' S6' bn5 bn6 bn7 b67 b57 R4 B4 hB4 zz5 zz6
 go_wp2_with fail
 generalize ((w4.alloc (.cells #[Value.func (Fn.func 49) #[.pointer (some ⟨B, 0, none⟩)] #[]] 72)).alloc (.cells #[Value.func (Fn.func 53) #[.pointer (some ⟨B, 0, none⟩)] #[]] 72)).alloc (.cells #[.slice (some ⟨w4.heap.size, 0, none⟩) 1 1, .slice (some ⟨g2, 0, none⟩) n n, .slice (some ⟨w4.heap.size + 1, 0, none⟩) 1 1] 70) = w7 at HCC hB7 R7 B7 z7 ⊢
 refine HCC.out.mono ?_
 rintro e w8 ⟨g8, c8, fp8, rfl, m8, n8, T8⟩
 rw [ballP_flat] at T8 n8
 have b8 : Below w7.heap.size w7 w8 := T8.below (Nat.le_refl _) (by simp)
 have hB8 := hB7.turned b8
 have R8 := R7.below b8 R7.lt
 have B8 := Below.andThen B7 b8
 rw [ballP_ys] at m8 ⊢
 have hlen : (Value.func (Fn.func 49) #[.pointer (some ⟨B, 0, none⟩)] #[] :: (List.replicate n (Value.func (Fn.func 51) #[.pointer (some ⟨B, 0, none⟩)] #[]) ++ [Value.func (Fn.func 53) #[.pointer (some ⟨B, 0, none⟩)] #[]])).length = (ballL n ds).length := by rw [ballL_len]; simp
 have hg8 := (val_at m8 (k := 0) rfl).2
 have hg8B : w7.heap.size <= g8 := by
  have hm : g8 ∈ fp8 := row_mem12 m8
  rcases n8 g8 hm with h | h
  . simp at h
  exact h
 have HTH := hidden (throughL_any w8 B (x, ms) ds fm fd hB8 (ballL n ds) (fun k => if k = 0 then 49 else if k <= n then 51 else 53) g8 c8 hg8 (by omega) (by rw [ballL_len]; omega) (fun k hk => by
  rw [ballL_len] at hk
  cases k with
  | zero => exact (val_at m8 (k := 0) rfl).1
  | succ k =>
   rw [if_neg (by omega)]
   by_cases hkn : k < n
   . rw [if_pos (by omega)]
     exact (val_at m8 (k := k + 1) (by rw [List.getElem?_cons_succ, List.getElem?_append_left (by simpa using hkn), List.getElem?_replicate, if_pos hkn])).1
   rw [if_neg (by omega)]
   obtain rfl : k = n := by omega
   exact (val_at m8 (k := k + 1) (by rw [List.getElem?_cons_succ, List.getElem?_append_right (by simp), List.length_replicate, Nat.sub_self]; rfl)).1) (fun k hk => by
  split
  . exact enters_of Tryz.func49 (by kernel_rfl) (by kernel_rfl) _
  . split
    . exact enters_of Tryz.func51 (by kernel_rfl) (by kernel_rfl) _
    exact enters_of Tryz.func53 (by kernel_rfl) (by kernel_rfl) _) (fun q => wtArr q.2 ds <= 2097152) hw (fun k f q hf hq => ballL_keeps hds f (List.mem_of_getElem? hf) q hq) (fun k f hf w' fm' fd' q hb hq => by
  rcases ballL_at hf with ⟨rfl, rfl⟩ | ⟨h1, h2, rfl⟩ | ⟨rfl, rfl⟩
  . rw [if_pos rfl]; exact spare_any w' B q ds fm' fd' hb hq
  . rw [if_neg (by omega), if_pos h2]; exact next_any w' B q ds fm' fd' hb hq
  rw [if_neg (by omega), if_neg (by omega)]; exact adopt_any w' B q ds fm' fd' hb hq))
 rw [← hlen] at HTH
 have z8 := b8.size
 clear HCC m8 n8 T8 b8 hB7 hB8 R7 B7
 generalize (Value.func (Fn.func 49) #[.pointer (some ⟨B, 0, none⟩)] #[] :: (List.replicate n (Value.func (Fn.func 51) #[.pointer (some ⟨B, 0, none⟩)] #[]) ++ [Value.func (Fn.func 53) #[.pointer (some ⟨B, 0, none⟩)] #[]])).length = nl at HTH ⊢
 go_wp2_with fail
 refine HTH.out.mono ?_
 rintro e w9 ⟨bm4, bd4, cm4, cd4, fm4, fd4, rfl, mm4, dd4, hr4, rm4, rd4, T4⟩
 have R9 := R8.turned T4 (by simp; omega)
 have B9 : Below w.heap.size w w9 := B8.trans (T4.below (by have := B8.size; omega) (by simp; omega))
 have z9 := T4.size
 clear HTH R8 B8 T4
 generalize runT (ballL n ds) (x, ms) = p at mm4 hr4 HV ⊢
 obtain ⟨⟨y, ns⟩, c⟩ := p
 dsimp only at mm4 HV ⊢
 obtain ⟨s0, s1, s2, s3, s4, s5, s6, s7, s8, s9, s10, s11, s12⟩ := R9.cells13
 have fz := R9.frozen
 have HO := hidden (arr_outC (y := y) (code := c) (e := .returned (.tuple #[.agg (arrC y _ _), .int .i64 c])) (lo := BR + 1) B9 R9 rfl mm4 dd4 hr4 (fun b hb => by rcases rm4 b hb with h | h; have := HR.out.1 b h; omega; omega) (fun b hb => by rcases rd4 b hb with h | h; have := HR.out.2 b h; omega; omega) (by omega) (by omega))
 unfold arrC at HO
 simp only [puts] at HO
 unfold arrC
 clear mm4 dd4 R9 B9
 go_wp2
 refine bodyPost_ret (v := .tuple #[.agg #[.int .i64 y.id, .int .i64 y.n, .int .i64 y.s, .slice bm4 ns.length cm4, .int .i64 y.lost, .int .i64 y.built, .int .i64 y.seq, .int .i64 y.tail, .int .i64 y.gen, .slice bd4 ds.length cd4, .int .i64 y.fuse, .bool y.down, .bool y.broken], .int .i64 c]) (by simp [results, Tryz.results22, go_sem, s0, s1, s2, s3, s4, s5, s6, s7, s8, s9, s10, s11, s12]) rfl ?_
 rw [HV.out.1, HV.out.2]; exact HO.out

end Go.Proofs.YtechckninoilhaaGreat

/-
 The walk of the program's copyArr: the same array in memory of its own. Condition: it weighs at most 2097152.
-/
import Derived.Test.YtechckninoilhaaGreatRowAdoptAll3
import Derived.Test.YtechckninoilhaaGreatWalkGeo
import Derived.Test.YtechckninoilhaaGreatWalkIn
import Derived.Test.YtechckninoilhaaGreatHeld
import Derived.Test.YtechckninoilhaaGreatWalkArrOk2
import Derived.Test.YtechckninoilhaaGreatRowAdoptAll4
import Derived.Test.YtechckninoilhaaGreatWalkSuper
import Derived.Test.YtechckninoilhaaGreatCode8
import Derived.Test.YtechckninoilhaaGreatWalkArrOk3
import Derived.Deep.Cut
import Derived.Test.YtechckninoilhaaGreatWalkArr
import Derived.Test.YtechckninoilhaaGreatWalkCopy
import Derived.Test.YtechckninoilhaaGreatWalkCopySpec
import Derived.Test.YtechckninoilhaaGreatOrder

set_option maxRecDepth 100000
set_option maxHeartbeats 8000000
set_option linter.unusedSimpArgs false

namespace Go.Proofs.YtechckninoilhaaGreat
open Go.RowKit

theorem superWrites1_any (w : World) (B p m : Nat) (hp : Box w p 53 #[.pointer (some ⟨B, 0, none⟩)]) : Calls Tryz.prog 148 #[.int .i64 (m : Int), .pointer (some ⟨p, 0, none⟩)] w fun e w' => ∃ v, e = .returned v /\ (opTy B).Own w' w.heap.size w'.heap.size [v] (supK m) /\ Below w.heap.size w w' := by
 have c0 : w.cell? ⟨p, 0, none⟩ = some (.pointer (some ⟨B, 0, none⟩)) := hp.cell 0
 go_enter Tryz.func148, Tryz.ntmps148
 go_wp2_with fail
 refine (superOp_any _ B m).mono ?_
 rintro e w1 ⟨v, rfl, ov, b1⟩
 have OV := hidden ov
 have B1 := hidden b1
 clear ov b1
 go_wp2
 go_ret
 exact ⟨_, rfl, OV.out, B1.out⟩

theorem superWrites_any (w : World) (B : Nat) (x : ArrN) (ms : List MemD) (ds : List (Int × List Int)) (fm fd : List Nat) (h : ArrAt w B x ms ds fm fd) (hl : ms.length <= 2097152) : Calls Tryz.prog 117 #[.pointer (some ⟨B, 0, none⟩)] w fun e w' => ∃ bo co, e = .returned (.slice bo (opsL supK ms ms.length).length co) /\ (tOps B).Own w' w.heap.size w'.heap.size [.slice bo (opsL supK ms ms.length).length co] (opsL supK ms ms.length) /\ Below w.heap.size w w' := by
 have hmf : ∀ (fn : Fn) (first cap : Array Value) (w : World), (Instr.makeFunc fn first cap).run Tryz.prog w = .ok (.func fn first cap) w := fun _ _ _ _ => rfl
 have bA := new_below w (.cells #[.pointer (some ⟨B, 0, none⟩)] 53)
 have bx := Box.new w 53 #[.pointer (some ⟨B, 0, none⟩)]
 have HA := hidden (h.alloc (.cells #[.pointer (some ⟨B, 0, none⟩)] 53))
 have hlt := bx.lt
 clear h
 go_enter Tryz.func117, Tryz.ntmps117
 go_wp2_with fail
 refine (opsOf_any _ B x ms ds fm fd HA.out hl supK 148 #[.pointer (some ⟨w.heap.size, 0, none⟩)] (fun m => enters_of Tryz.func148 (by kernel_rfl) (by kernel_rfl) _) (fun m w' hm hb => ?_)).mono ?_
 . exact superWrites1_any w' B _ m (bx.below hb hlt)
 rintro e w1 ⟨bo, co, rfl, oo, b1⟩
 have OO := hidden (oo.widen (lo' := w.heap.size) (hi' := w1.heap.size) (by simp) (Nat.le_refl _))
 have B1 := hidden (Below.andThen bA b1)
 clear oo b1 bA bx
 go_wp2
 go_ret
 exact ⟨_, _, rfl, OO.out, B1.out⟩

theorem arr_marked {w : World} {B : Nat} {x : ArrN} {ms : List MemD} {ds : List (Int × List Int)} {fm fd : List Nat} (h : ArrAt w B x ms ds fm fd) : ArrAt (w.setCell ⟨B, 8, none⟩ (.int .i64 (x.gen + 1))) B {x with gen := x.gen + 1} ms ds fm fd := by
 obtain ⟨bm, bd, cm, cd, X, hm, hd, hr, r1, r2⟩ := h
 exact ⟨bm, bd, cm, cd, X.set 8 _, hm.setCell r1 _, hd.setCell r2 _, hr, r1, r2⟩
theorem arr_tail {w : World} {B : Nat} {x : ArrN} {ms : List MemD} {ds : List (Int × List Int)} {fm fd : List Nat} (h : ArrAt w B x ms ds fm fd) : ArrAt (w.setCell ⟨B, 7, none⟩ (.int .i64 x.seq)) B {x with tail := x.seq} ms ds fm fd := by
 obtain ⟨bm, bd, cm, cd, X, hm, hd, hr, r1, r2⟩ := h
 exact ⟨bm, bd, cm, cd, X.set 7 _, hm.setCell r1 _, hd.setCell r2 _, hr, r1, r2⟩
def SupFit (x : ArrN) (n : Nat) : Prop := ∀ i : Nat, i < n -> supB (supA x i) = true
theorem sup_fit {x : ArrN} {ms : List MemD} {ds : List (Int × List Int)} (h : arrB x ms ds = true) (hg : x.gen < 60000) (t : Int) (ht : t = x.tail ∨ t = x.seq) : SupFit {x with gen := x.gen + 1, tail := t} ms.length := by
 intro i hi
 have hl := arr_len h
 unfold arrB lostB6 seqB6 at h
 simp only [Bool.and_eq_true, geoB_iff, inB_iff, decide_eq_true_eq, Bool.or_eq_true, Bool.not_eq_true', decide_eq_false_iff_not] at h
 obtain ⟨hgeo, hid, _, _, ⟨hlo, hbu, hlb⟩, htl, hsq, _, hgen, _⟩ := h
 rw [supB_iff]
 unfold supA
 dsimp only
 refine ⟨hgeo, ?_, ⟨by omega, by omega⟩, hid, ⟨by omega, by omega⟩, ⟨by rcases ht with rfl | rfl <;> omega, by rcases ht with rfl | rfl <;> omega⟩⟩
 by_cases e : x.lost = -1
 . exact .inl ⟨e, hlb.resolve_left (fun h => h e)⟩
 exact .inr ⟨e, by omega, hlo.2, hbu.1, hbu.2⟩
theorem run_mark {x : ArrN} {ms : List MemD} (hM : MsOk ms) (hf : x.fuse <= 1000) (hu : SupFit {x with gen := x.gen + 1} ms.length) : runS ({x with gen := x.gen + 1}, ms) (opsL supK ms ms.length) = supsS ({x with gen := x.gen + 1}, ms) ms.length :=
 run_sups (q := ({x with gen := x.gen + 1}, ms)) hM hf hu ms.length (Nat.le_refl _)
theorem syncS_down {q : ArrN × List MemD} (h : q.1.down = true) : ∀ j, syncS q j = q
 | 0 => rfl
 | j + 1 => by rw [syncS_succ, syncS_down h j, doS_down _ _ h]

theorem markI_any (w : World) (B : Nat) (x : ArrN) (ms : List MemD) (ds : List (Int × List Int)) (fm fd : List Nat) (h : ArrAt w B x ms ds fm fd) (hf : x.fuse <= 1000) (hdn : x.down = false) (hM : MsOk ms) (hl : ms.length <= 2097152) (hg0 : 0 <= x.gen) (hg : x.gen < 60000) (hu : SupFit {x with gen := x.gen + 1} ms.length) : Calls Tryz.prog 76 #[.pointer (some ⟨B, 0, none⟩)] w (Did w B fm ds fd (markS (x, ms))) := by
 have k8 : w.cell? ⟨B, 8, none⟩ = some (.int .i64 x.gen) := by
  obtain ⟨bm, bd, cm, cd, X, _⟩ := h
  unfold arrC at X
  exact X.cells13.2.2.2.2.2.2.2.2.1
 have fz : ∀ j, w.frozen? ⟨B, j, none⟩ = false := by
  obtain ⟨bm, bd, cm, cd, X, _⟩ := h
  exact X.frozen
 have hw1 : IntKind.i64.wrap (x.gen + 1) = x.gen + 1 := IntWalk.i64_in _ (by omega)
 have HA := hidden (arr_marked h)
 have MS := hidden (Moved.set (B := B) (j := 8) (fm := fm) (w := w) (.int .i64 (x.gen + 1)))
 have HR := hidden (run_mark hM hf hu)
 have HF : Hid (x.fuse <= 1000 /\ x.down = false) := ⟨hf, hdn⟩
 have HMK : Hid (markS (x, ms) = syncS (supsS ({x with gen := x.gen + 1}, ms) ms.length) ms.length) := rfl
 have HK := hidden (supsS_keeps (q := ({x with gen := x.gen + 1}, ms)) hM hf ms.length)
 have hlB := HA.out.lt
 have hlm := HA.out.ltm.1
 clear h hf hdn hg0 hg hu
 go_enter Tryz.func76, Tryz.ntmps76
 go_wp2_with fail
 clear k8 fz
 generalize w.setCell ⟨B, 8, none⟩ (.int .i64 (x.gen + 1)) = w0 at HA MS hlB hlm ⊢
 refine (superWrites_any _ B {x with gen := x.gen + 1} ms ds fm fd HA.out hl).mono ?_
 rintro e w1 ⟨bo, co, rfl, oo, b1⟩
 obtain ⟨fo, mo, ro⟩ := oo.mine
 have HP := hidden (perform_any w1 B {x with gen := x.gen + 1} ms ds fm fd (HA.out.below b1) HF.out.1 HF.out.2 hM bo co (opsL supK ms ms.length) fo mo (fun b hb => ⟨fun e => by have := (ro b hb).1; omega, fun hm => by have h1 := (ro b hb).1; have h2 := hlm b hm; omega⟩) (fun o ho => by
  obtain ⟨i, hi, hfl, rfl⟩ := opsL_mem ho
  exact ⟨hi, hfl⟩))
 have MB := hidden (MS.out.below b1)
 clear oo mo ro b1 hlm HA MS
 go_wp2_with fail
 refine HP.out.mono ?_
 rintro e w2 hd
 rw [HR.out] at hd
 obtain ⟨he, fm2, hA2, hMv2⟩ := hd
 have MV2 := hidden (MB.out.trans hMv2)
 obtain ⟨kM, kS, kL⟩ := HK.out
 clear hMv2 HR HP HK MB
 generalize supsS ({x with gen := x.gen + 1}, ms) ms.length = st at he hA2 HMK kM kS kL
 obtain ⟨y, ns⟩ := st
 dsimp only at he hA2 kM kS kL
 have hfy := kS.2.2.2.2.2.2.2.2.2.1
 unfold EndOf at he
 cases hst : y.down
 . rw [if_neg (by simp [hst])] at he
   subst he
   have HS := hidden (syncDisks_any w2 B y ns ds fm2 fd hA2 hfy hst kM (by omega))
   rw [kL] at HS
   clear hst hA2
   go_wp2_with fail
   refine HS.out.mono ?_
   rintro e w3 ⟨he, fm3, hA3, hMv3⟩
   have HD : Hid (Did w B fm ds fd (markS (x, ms)) e w3) := by
    unfold Hid
    rw [HMK.out]
    exact ⟨he, fm3, hA3, MV2.out.trans hMv3⟩
   unfold EndOf at he
   clear hA3 hMv3
   cases hst : (syncS (y, ns) ms.length).1.down
   . rw [if_neg (by simp [hst])] at he
     subst he
     clear hst
     go_wp2
     refine bodyPost_end (v := .tuple #[]) (results_none rfl _ _ _) rfl ?_
     exact HD.out
   rw [if_pos hst] at he
   subst he
   clear hst
   go_wp2
   exact ⟨rfl, HD.out⟩
 rw [if_pos hst] at he
 subst he
 have HD : Hid (Did w B fm ds fd (markS (x, ms)) (.panicked goneC) w2) := by
  unfold Hid
  rw [HMK.out, syncS_down hst]
  exact ⟨EndOf.gone hst, fm2, hA2, MV2.out⟩
 clear hst hA2
 go_wp2
 exact ⟨rfl, HD.out⟩

theorem checkDisks_any (w : World) (B : Nat) (x : ArrN) (ms : List MemD) (ds : List (Int × List Int)) (fm fd : List Nat) (h : ArrAt w B x ms ds fm fd) (ha : arrB x ms ds = true) (hdn : x.down = false) (hg : x.gen < 60000) : Calls Tryz.prog 134 #[.pointer (some ⟨B, 0, none⟩)] w (Did w B fm ds fd (checkS (x, ms))) := by
 obtain ⟨fc, mk, gc0, gc1⟩ := arr_facts ha
 have hl := arr_len ha
 have HU := hidden (sup_fit ha hg x.seq (.inr rfl))
 have HC : Hid (checkS (x, ms) = if (syncS (x, ms) ms.length).1.down = true then syncS (x, ms) ms.length else markS ({(syncS (x, ms) ms.length).1 with tail := (syncS (x, ms) ms.length).1.seq}, (syncS (x, ms) ms.length).2)) := rfl
 have HK := hidden (syncS_keeps (q := (x, ms)) mk fc ms.length)
 have HS := hidden (syncDisks_any w B x ms ds fm fd h fc hdn mk (by omega))
 clear h hdn
 go_enter Tryz.func134, Tryz.ntmps134
 go_wp2_with fail
 refine HS.out.mono ?_
 rintro e w1 ⟨he, fm1, hA1, hMv1⟩
 have MV := hidden hMv1
 obtain ⟨kM, kS, kL⟩ := HK.out
 clear HS HK hMv1
 generalize syncS (x, ms) ms.length = st at he hA1 HC kM kS kL
 obtain ⟨y, ns⟩ := st
 dsimp only at he hA1 kM kS kL HC
 unfold EndOf at he
 cases hst : y.down
 . rw [if_neg (by simp [hst])] at he
   subst he
   obtain ⟨s1, s2, s3, s4, s5, s6, s7, s8, s9, s10, s11⟩ := kS
   have HV : Hid (checkS (x, ms) = markS ({y with tail := y.seq}, ns)) := by unfold Hid; rw [HC.out, if_neg (by simp [hst])]
   have HU2 : Hid (SupFit {({y with tail := y.seq} : ArrN) with gen := y.gen + 1} ns.length) := by
    intro i hi
    have := HU.out i (by omega)
    unfold supA at this ⊢
    dsimp only at this ⊢
    rw [s1, s2, s3, s4, s5, s6, s8]
    exact this
   have c6 : w1.cell? ⟨B, 6, none⟩ = some (.int .i64 y.seq) := by
    obtain ⟨bm, bd, cm, cd, X, _⟩ := hA1
    unfold arrC at X
    exact X.cells13.2.2.2.2.2.2.1
   have c7 : w1.cell? ⟨B, 7, none⟩ = some (.int .i64 y.tail) := by
    obtain ⟨bm, bd, cm, cd, X, _⟩ := hA1
    unfold arrC at X
    exact X.cells13.2.2.2.2.2.2.2.1
   have fz : ∀ j, w1.frozen? ⟨B, j, none⟩ = false := by
    obtain ⟨bm, bd, cm, cd, X, _⟩ := hA1
    exact X.frozen
   have MV2 := hidden (MV.out.trans (Moved.set (B := B) (j := 7) (fm := fm1) (w := w1) (.int .i64 y.seq)))
   have HM := hidden (markI_any _ B {y with tail := y.seq} ns ds fm1 fd (arr_tail hA1) s10 hst kM (by omega) (by dsimp only; omega) (by dsimp only; omega) HU2.out)
   clear hA1 hst HC HU HU2 s1 s2 s3 s4 s5 s6 s7 s8 s9 s10 s11
   go_wp2_with fail
   refine HM.out.mono ?_
   rintro e w3 ⟨he, fm3, hA3, hMv3⟩
   have HD : Hid (Did w B fm ds fd (checkS (x, ms)) e w3) := by
    unfold Hid
    rw [HV.out]
    exact ⟨he, fm3, hA3, MV2.out.trans hMv3⟩
   unfold EndOf at he
   clear hA3 hMv3 HM MV2
   generalize markS ({y with tail := y.seq}, ns) = st at he HV
   cases hst : st.1.down
   . rw [if_neg (by simp [hst])] at he
     subst he
     clear hst
     go_wp2
     refine bodyPost_end (v := .tuple #[]) (results_none rfl _ _ _) rfl ?_
     exact HD.out
   rw [if_pos hst] at he
   subst he
   clear hst
   go_wp2
   exact ⟨rfl, HD.out⟩
 rw [if_pos hst] at he
 subst he
 have HD : Hid (Did w B fm ds fd (checkS (x, ms)) (.panicked goneC) w1) := by
  unfold Hid
  rw [HC.out, if_pos hst]
  exact ⟨EndOf.gone hst, fm1, hA1, MV.out⟩
 clear hst hA1
 go_wp2
 exact ⟨rfl, HD.out⟩

theorem adopt_fit {x : ArrN} {ms : List MemD} {ds : List (Int × List Int)} {y : ArrN} {n : Nat} (h : arrB x ms ds = true) (hg : x.gen < 59990) (hy : y.id = x.id /\ y.n = x.n /\ y.s = x.s /\ y.tail = x.seq /\ y.gen = x.gen + 1 /\ y.fuse <= 1000) (hn : n = ms.length) : SupFit {({y with lost := -1, built := 0} : ArrN) with gen := y.gen + 1} n := by
 intro i hi
 have hl := arr_len h
 obtain ⟨y1, y2, y3, y4, y5, _⟩ := hy
 unfold arrB seqB6 at h
 simp only [Bool.and_eq_true, geoB_iff, inB_iff, decide_eq_true_eq] at h
 obtain ⟨hgeo, hid, _, _, _, htl, hsq, _, hgen, _⟩ := h
 rw [supB_iff]
 unfold supA
 dsimp only
 rw [y1, y2, y3, y4, y5]
 exact ⟨hgeo, .inl ⟨rfl, rfl⟩, ⟨by omega, by omega⟩, hid, ⟨by omega, by omega⟩, ⟨by omega, by omega⟩⟩

theorem adoptDisk_any (w : World) (B : Nat) (x : ArrN) (ms : List MemD) (ds : List (Int × List Int)) (fm fd : List Nat) (h : ArrAt w B x ms ds fm fd) (hk : adoptK x ms ds = 0) :
 Calls Tryz.prog 97 #[.pointer (some ⟨B, 0, none⟩)] w (Did w B fm ds fd (adoptA (x, ms))) := by
 obtain ⟨ha, hdn, hl, hbs, hbr, hgen⟩ := adopt_zero hk
 obtain ⟨fc, mk, gc0, gc1⟩ := arr_facts ha
 have hln := arr_len ha
 have HC := hidden (checkDisks_any w B x ms ds fm fd h ha hdn (by omega))
 have HAA : Hid (adoptA (x, ms) = if (checkS (x, ms)).1.down = true then checkS (x, ms) else markS ({(checkS (x, ms)).1 with lost := -1, built := 0}, (checkS (x, ms)).2)) := rfl
 have HN := hidden (check_num (q := (x, ms)) mk fc)
 have HKP := hidden (checkS_keeps (q := (x, ms)) mk fc)
 clear h hk hl hbs hbr
 go_enter Tryz.func97, Tryz.ntmps97
 go_wp2_with fail
 refine HC.out.mono ?_
 rintro e w1 ⟨he, fm1, A1, M1⟩
 have MV1 := hidden M1
 clear HC M1
 generalize checkS (x, ms) = st at he A1 HAA HN HKP
 obtain ⟨y, ns⟩ := st
 dsimp only at he A1 HAA HN HKP
 unfold EndOf at he
 cases hst : y.down
 . rw [if_neg (by simp [hst])] at he
   subst he
   have hn := HN.out hst
   have HV : Hid (adoptA (x, ms) = markS ({y with lost := -1, built := 0}, ns)) := by unfold Hid; rw [HAA.out, if_neg (by simp [hst])]
   have A2 := hidden (arr_numbers A1 (-1)).1
   have MV2 := hidden ((MV1.out.trans (Moved.set (B := B) (j := 4) (fm := fm1) (w := w1) (.int .i64 (-1)))).trans (Moved.set (B := B) (j := 5) (.int .i64 0)))
   have HMK := hidden (markI_any _ B ({y with lost := -1, built := 0} : ArrN) ns ds fm1 fd A2.out hn.2.2.2.2.2 hst HKP.out.1 (by have := HKP.out.2; omega) (by dsimp only; omega) (by dsimp only; omega) (adopt_fit ha hgen hn HKP.out.2))
   obtain ⟨c4, c5, c8, c11, c12, fz⟩ := arr_cells A1
   clear hst hn HN HKP HAA A1 MV1
   generalize markS ({y with lost := -1, built := 0}, ns) = st at HMK HV
   go_wp2_with fail
   refine HMK.out.mono ?_
   rintro e w5 ⟨he, fm5, A5, M5⟩
   have MV5 := hidden (MV2.out.trans M5)
   have HA5 := hidden A5
   clear HMK M5 A5 MV2 A2 c4 c5 c8 c11 c12 fz
   unfold EndOf at he
   cases hd : st.1.down
   . rw [if_neg (by simp [hd])] at he
     subst he
     have HE := hidden (EndOf.fine hd)
     clear hd
     go_wp2
     refine bodyPost_end (v := .tuple #[]) (results_none rfl _ _ _) rfl ?_
     exact ⟨by rw [HV.out]; exact HE.out, fm5, by rw [HV.out]; exact HA5.out, MV5.out⟩
   rw [if_pos hd] at he
   subst he
   have HE := hidden (EndOf.gone hd)
   clear hd
   go_wp2
   exact ⟨rfl, by rw [HV.out]; exact HE.out, fm5, by rw [HV.out]; exact HA5.out, MV5.out⟩
 rw [if_pos hst] at he
 subst he
 have HV : Hid (adoptA (x, ms) = (y, ns)) := by unfold Hid; rw [HAA.out, if_pos hst]
 have HE := hidden (EndOf.gone hst)
 have HA1 := hidden A1
 clear hst HN HKP HAA A1
 go_wp2
 exact ⟨rfl, by rw [HV.out]; exact HE.out, fm1, by rw [HV.out]; exact HA1.out, MV1.out⟩

theorem perStripe_any (w : World) (n s : Int) (h1 : 3 <= n) (h2 : n <= 5) : Calls Tryz.prog 113 #[.agg #[.int .i64 n, .int .i64 s]] w fun e w' => e = .returned (.int .i64 (n - 1)) /\ Below w.heap.size w w' := by
 have hA := new_below w (.cells #[.int .i64 n, .int .i64 s] 29)
 obtain ⟨k0, k1⟩ := (Gbox.new w 29 n s).cells
 go_enter Tryz.func113, Tryz.ntmps113
 go_wp2
 go_ret
 exact ⟨ret_int (by first | rfl | omega), hA⟩

theorem stripeB_of {n s t : Int} : stripeB n s t = true ↔ geoB n s = true /\ 0 <= t /\ t < s := by unfold stripeB; rw [Bool.and_eq_true, inB_iff]; constructor <;> (rintro ⟨a, b⟩; exact ⟨a, by omega⟩)
theorem stripeB_not {n s t : Int} : stripeB n s t = false ↔ ¬ (geoB n s = true /\ 0 <= t /\ t < s) := by rw [← stripeB_of]; simp

theorem hasStripe_any (w : World) (n s t : Int) : Calls Tryz.prog 112 #[.agg #[.int .i64 n, .int .i64 s], .int .i64 t] w fun e w' => e = .returned (.bool (stripeB n s t)) /\ Below w.heap.size w w' := by
 have hA := new_below w (.cells #[.int .i64 n, .int .i64 s] 29)
 have X := Gbox.new w 29 n s
 obtain ⟨k0, k1⟩ := X.cells
 have zA := X.lt
 go_enter Tryz.func112, Tryz.ntmps112
 go_wp2_with fail
 refine (implGeoOk_any _ _ _).mono ?_
 rintro e w1 ⟨rfl, b1⟩
 have X1 := X.below b1 zA
 obtain ⟨p0, p1⟩ := X1.cells
 have B1 := Below.andThen hA b1
 clear k0 k1 X b1 hA zA
 by_cases hg : geoB n s = true
 . by_cases h1 : 0 <= t
   . by_cases h2 : t < s
     . go_wp2
       go_ret
       exact ⟨ret_bool (by symm; rw [stripeB_of]; exact ⟨hg, h1, h2⟩), B1⟩
     go_wp2
     go_ret
     exact ⟨ret_bool (by first | (exact (stripeB_not.2 (by omega)).symm) | (rw [stripeB_not.2 (by omega)]; simp; omega)), B1⟩
   go_wp2
   go_ret
   exact ⟨ret_bool (by first | (exact (stripeB_not.2 (by omega)).symm) | (rw [stripeB_not.2 (by omega)]; simp; omega)), B1⟩
 have hg : geoB n s = false := by simpa using hg
 go_wp2
 go_ret
 exact ⟨ret_bool (by symm; rw [stripeB_not]; simp [hg]), B1⟩

def dataN (x : Int) : Int := if 0 <= x /\ x <= 1099511627776 then x + 6 else -1
theorem implDataAt_any (w : World) (x : Int) : Calls Tryz.prog 133 #[.int .i64 x] w fun e w' => e = .returned (.int .i64 (dataN x)) /\ w' = w := by
 by_cases h : 0 <= x /\ x <= 1099511627776
 . have e2 : IntKind.i64.wrap (x + 2) = x + 2 := IntWalk.i64_in _ (by omega)
   have e4 : IntKind.i64.wrap (x + 2 + 4) = x + 2 + 4 := IntWalk.i64_in _ (by omega)
   have e3 : IntKind.i64.wrap (6 + x) = 6 + x := IntWalk.i64_in _ (by omega)
   have hv : dataN x = x + 6 := by unfold dataN; rw [if_pos h]
   have hi : inB x 0 1099511627776 = true := by unfold inB; simp; omega
   go_enter Tryz.func133, Tryz.ntmps133
   go_wp2_with fail
   refine (within_any _ _ _ _).mono ?_
   rintro e w1 ⟨rfl, rfl⟩
   rw [hi]
   go_wp2
   go_ret
   exact ⟨ret_int (by rw [hv]; omega), rfl⟩
 have hv : dataN x = -1 := by unfold dataN; rw [if_neg h]
 have hi : inB x 0 1099511627776 = false := by unfold inB; simp; omega
 go_enter Tryz.func133, Tryz.ntmps133
 go_wp2_with fail
 refine (within_any _ _ _ _).mono ?_
 rintro e w1 ⟨rfl, rfl⟩
 rw [hi]
 go_wp2
 go_ret
 exact ⟨ret_int (by first | (rw [hv]; done) | rfl | omega), rfl⟩

def recB6 (x : ArrN) : Bool := inB x.seq 0 60000 && (inB x.tail 0 60000 && inB (x.seq - x.tail) 0 4)
theorem lost_same6 {x : ArrN} (hg : geoB x.n x.s = true) : lostB x.n x.s x.lost x.built = lostB6 x := by
 obtain ⟨g1, g2, g3, g4⟩ := geoB_iff.1 hg
 rw [Bool.eq_iff_iff, lostB_iff]
 unfold lostB6
 simp only [Bool.and_eq_true, inB_iff, Bool.or_eq_true, Bool.not_eq_true', decide_eq_false_iff_not, decide_eq_true_eq]
 omega
theorem seq_same6 (x : ArrN) : seqB6 x = (inB x.gen 0 60000 && (inB x.fuse (-1) 1000 && recB6 x)) := by
 rw [Bool.eq_iff_iff]
 unfold seqB6 recB6
 simp only [Bool.and_eq_true, inB_iff, decide_eq_true_eq]
 omega
theorem arr_same6 {x : ArrN} {ms : List MemD} {ds : List (Int × List Int)} (hg : geoB x.n x.s = true) : arrB x ms ds = (inB x.id 1 60000 && (lostB x.n x.s x.lost x.built && (inB x.gen 0 60000 && (inB x.fuse (-1) 1000 && (memsB x ms && (recB6 x && entsB x ds)))))) := by
 unfold arrB
 rw [hg, lost_same6 hg, seq_same6]
 cases inB x.id 1 60000 <;> cases lostB6 x <;> cases inB x.gen 0 60000 <;> cases inB x.fuse (-1) 1000 <;> cases memsB x ms <;> cases recB6 x <;> cases entsB x ds <;> rfl
theorem stripe_in6 {x : ArrN} {y : Int} (hg : geoB x.n x.s = true) : stripeB x.n x.s y = inB y 0 (x.s - 1) := by unfold stripeB; rw [hg]; rfl
theorem sec_all6 {zs : List Int} (h : zs.length <= 12) : secB zs = allW zs := by unfold secB; simp [h]
theorem entAt_6 {x : ArrN} {ds : List (Int × List Int)} {p : Nat} {y : Int} {zs : List Int} {q : Int × List Int} (hq : ds[p]? = some q) (h : y <= q.1) : entAt x ds (p + 1) (y, zs) = false := by
 have : ds.getD (p + 1 - 1) (0, []) = q := by rw [Nat.add_sub_cancel, List.getD_eq_getElem?_getD, hq]; rfl
 unfold entAt
 rw [this]
 have h2 : ¬ q.1 < y := by omega
 simp [h2]

theorem sectorsOf_any (w : World) (n s : Int) (hs : 1 <= s /\ s <= 8) : Calls Tryz.prog 111 #[.agg #[.int .i64 n, .int .i64 s]] w fun e w' => e = .returned (.int .i64 (6 + s)) /\ Below w.heap.size w w' := by
 have hA := new_below w (.cells #[.int .i64 n, .int .i64 s] 29)
 obtain ⟨k0, k1⟩ := (Gbox.new w 29 n s).cells
 have hd : dataN s = 6 + s := by unfold dataN; split <;> omega
 have HD := hidden hd
 clear hd
 go_enter Tryz.func111, Tryz.ntmps111
 go_wp2_with fail
 refine (implDataAt_any _ _).mono ?_
 rintro e w1 ⟨rfl, h1⟩
 subst h1
 rw [HD.out]
 go_wp2
 go_ret
 exact ⟨rfl, hA⟩

theorem memsOk_any (w : World) (E F : TypeId) (x : ArrN) (am ad : Option Addr) (nm cm nd cd : Nat) (ms : List MemD) (h0 : (tMemS E F).Rd w [.slice am nm cm] ms) (hw : wtMemS ms <= 2097152) (hg : geoB x.n x.s = true) :
 Calls Tryz.prog 72 #[.agg #[.int .i64 x.id, .int .i64 x.n, .int .i64 x.s, .slice am nm cm, .int .i64 x.lost, .int .i64 x.built, .int .i64 x.seq, .int .i64 x.tail, .int .i64 x.gen, .slice ad nd cd, .int .i64 x.fuse, .bool x.down, .bool x.broken]] w fun e w' => e = .returned (.bool (memsB x ms)) /\ Below w.heap.size w w' := by
 obtain ⟨hl, hc, hm⟩ := row_length h0
 obtain ⟨g1, g2, g3, g4⟩ := geoB_iff.1 hg
 have hA := new_below w (.cells #[.int .i64 x.id, .int .i64 x.n, .int .i64 x.s, .slice am nm cm, .int .i64 x.lost, .int .i64 x.built, .int .i64 x.seq, .int .i64 x.tail, .int .i64 x.gen, .slice ad nd cd, .int .i64 x.fuse, .bool x.down, .bool x.broken] 33)
 have X := Box.new w 33 #[.int .i64 x.id, .int .i64 x.n, .int .i64 x.s, .slice am nm cm, .int .i64 x.lost, .int .i64 x.built, .int .i64 x.seq, .int .i64 x.tail, .int .i64 x.gen, .slice ad nd cd, .int .i64 x.fuse, .bool x.down, .bool x.broken]
 have zA := X.lt
 have hnm : nm <= 2097152 := by unfold wtMemS at hw; omega
 have h1 := h0.below hA
 obtain ⟨k0, k1, k2, k3, k4, k5, k6, k7, k8, k9, k10, k11, k12⟩ := X.cells13
 by_cases hN : (nm : Int) = x.n
 . have hN1 : ((nm : Int) == x.n) = true := by simpa using hN
   have hN2 : ((nm : Int) != x.n) = false := by simpa using hN
   have HN := hidden hN
   clear hN
   go_enter Tryz.func72, Tryz.ntmps72
   go_wp2
   generalize w.alloc (.cells #[.int .i64 x.id, .int .i64 x.n, .int .i64 x.s, .slice am nm cm, .int .i64 x.lost, .int .i64 x.built, .int .i64 x.seq, .int .i64 x.tail, .int .i64 x.gen, .slice ad nd cd, .int .i64 x.fuse, .bool x.down, .bool x.broken] 33) = W at hA X zA h1 k0 k1 k2 k3 k4 k5 k6 k7 k8 k9 k10 k11 k12 ⊢
   clear k0 k1 k2 k3 k4 k5 k6 k7 k8 k9 k10 k11 k12
   go_loopw [15] (fun i wr => ∃ j : Nat, j <= nm /\ i = .int .i64 j /\ (∀ (q : Nat) (m : MemD), q < j -> ms[q]? = some m -> memAt x q m = true) /\ Below W.heap.size W wr) (fun i _ => nm - (intOf i).toNat)
   case atStart => exact ⟨0, Nat.zero_le _, rfl, fun q m hq => by omega, Below.refl _ _⟩
   obtain ⟨j, hj, rfl, hall, hb⟩ := hrel
   have Xr := X.below hb zA
   by_cases hjn : j < nm
   . rcases quads_at rfl h1 with h0' | ⟨b, off, rfl, hbl, hcs⟩
     . omega
     have hdj : ms[j]? = some (ms[j]'(by omega)) := List.getElem?_eq_getElem (by omega)
     generalize ms[j]'(by omega) = m at hdj
     obtain ⟨v0, v1, v2, v3, hv0, hv1, hv2, hv3, hrv⟩ := hcs j m hdj
     obtain ⟨a0, c0, a1, c1, a3, c3, ss, cs, f, bs, rfl, rfl, rfl, rfl, rfl, r0, r1, r3⟩ := mem_at hrv
     have u0 := (hb.cell (p := ⟨b, off + j * 4, none⟩) hbl).trans hv0
     have u1 := (hb.cell (p := ⟨b, off + j * 4 + 1, none⟩) hbl).trans hv1
     have u2 := (hb.cell (p := ⟨b, off + j * 4 + 2, none⟩) hbl).trans hv2
     have u3 := (hb.cell (p := ⟨b, off + j * 4 + 3, none⟩) hbl).trans hv3
     have i1 : (0 : Int) <= (j : Int) := by omega
     have i2 : (j : Int) < (nm : Int) := by omega
     have hwm := Nat.le_trans (inner_leM hdj) hw
     have HDJ := hidden hdj
     clear hcs hv0 hv1 hv2 hv3 hrv hdj
     have b1 := new_below wr (.cells #[.slice a0 ss.length c0, .slice a1 cs.length c1, .bool f, .slice a3 bs.length c3] 51)
     have Y1 := Box.new wr 51 #[.slice a0 ss.length c0, .slice a1 cs.length c1, .bool f, .slice a3 bs.length c3]
     have X1 := Xr.below b1 Xr.lt
     have R0 := (r0.below hb).below b1
     have R1 := (r1.below hb).below b1
     have R3 := (r3.below hb).below b1
     have B1 := hb.trans (b1.mono hb.size)
     clear r0 r1 r3 b1
     obtain ⟨y0, y1, y2, y3⟩ := Y1.cells4
     obtain ⟨e0, e1, e2, e3, e4, e5, e6, e7, e8, e9, e10, e11, e12⟩ := X1.cells13
     have zy := Y1.lt
     have zx := X1.lt
     clear e0 e3 e5 e6 e7 e8 e9 e10 e11
     cases hM : memB ss cs bs
     . skip
       go_wp2_with fail
       generalize wr.alloc (.cells #[.slice a0 ss.length c0, .slice a1 cs.length c1, .bool f, .slice a3 bs.length c3] 51) = w1 at X1 Y1 R0 R1 R3 B1 y0 y1 y2 y3 e1 e2 e4 e12 zy zx ⊢
       refine wp_region_held_drew (S := fun w' => w'.cell? ⟨wr.heap.size, 0, none⟩ = some (.slice a0 ss.length c0) /\ w'.cell? ⟨wr.heap.size, 1, none⟩ = some (.slice a1 cs.length c1) /\ w'.cell? ⟨wr.heap.size, 2, none⟩ = some (.bool f) /\ w'.cell? ⟨wr.heap.size, 3, none⟩ = some (.slice a3 bs.length c3) /\ w'.cell? ⟨w.heap.size, 1, none⟩ = some (.int .i64 x.n) /\ w'.cell? ⟨w.heap.size, 2, none⟩ = some (.int .i64 x.s)) (by kernel_rfl) ?_ (fun hHeld => ?_)
       . exact ⟨y0, y1, y2, y3, e1, e2⟩
       refine held_t 0 hHeld ?_
       refine held_one (i := 1) (by kernel_rfl) rfl (by kernel_rfl) (fun K hK => ?_)
       go_simp
       refine (implMemOk_any _ E _ _ _ _ _ _ _ _ _ ss cs f bs R0.drew R1.drew R3.drew hwm).mono ?_
       rintro e w2 ⟨rfl, b2⟩
       rw [hM]
       have b2' : Below w1.heap.size w1 w2 := (Below.refl w1.heap.size w1).drew.trans b2
       clear b2
       go_wp2_with fail
       clear hHeld
       refine hK.out _ _ ?_ (fun hHeld => ?_)
       . exact ⟨(b2'.cell (p := ⟨wr.heap.size, 0, none⟩) zy).trans y0, (b2'.cell (p := ⟨wr.heap.size, 1, none⟩) zy).trans y1, (b2'.cell (p := ⟨wr.heap.size, 2, none⟩) zy).trans y2, (b2'.cell (p := ⟨wr.heap.size, 3, none⟩) zy).trans y3, (b2'.cell (p := ⟨w.heap.size, 1, none⟩) zx).trans e1, (b2'.cell (p := ⟨w.heap.size, 2, none⟩) zx).trans e2⟩
       clear hK K
       refine held_t 2 hHeld ?_
       refine held_t 3 hHeld ?_
       refine held_p 4 hHeld ?_
       refine held_p 5 hHeld ?_
       refine held_p 6 hHeld ?_
       refine held_p 7 hHeld ?_
       refine held_p 8 hHeld ?_
       refine held_none (i := 9) (by kernel_rfl) rfl (by kernel_rfl) hHeld ?_
       simp only [Act.put, List.setIfInBounds_toArray, List.set_cons_zero, List.set_cons_succ]
       refine held_p 10 hHeld ?_
       refine held_t 11 hHeld ?_
       refine wpAnyH_done (by kernel_rfl) ?_ _
       clear hHeld
       have HB := hidden (hA.trans ((B1.trans (b2'.mono B1.size)).mono hA.size))
       go_wp2
       go_ret
       exact ⟨ret_bool (by rw [show memsB x ms = false from (by unfold memsB; rw [allIx_no HDJ.out (by unfold memAt; simp [hM])]; rfl)]), HB.out⟩
     by_cases hS : (ss.length : Int) = 6 + x.s
     . have hS1 : ((ss.length : Int) == 6 + x.s) = true := by simpa using hS
       have hS2 : ((ss.length : Int) != 6 + x.s) = false := by simpa using hS
       have HS := hidden hS
       clear hS
       cases f
       . skip
         go_wp2_with fail
         generalize wr.alloc (.cells #[.slice a0 ss.length c0, .slice a1 cs.length c1, .bool false, .slice a3 bs.length c3] 51) = w1 at X1 Y1 R0 R1 R3 B1 y0 y1 y2 y3 e1 e2 e4 e12 zy zx ⊢
         refine wp_region_held_drew (S := fun w' => w'.cell? ⟨wr.heap.size, 0, none⟩ = some (.slice a0 ss.length c0) /\ w'.cell? ⟨wr.heap.size, 1, none⟩ = some (.slice a1 cs.length c1) /\ w'.cell? ⟨wr.heap.size, 2, none⟩ = some (.bool false) /\ w'.cell? ⟨wr.heap.size, 3, none⟩ = some (.slice a3 bs.length c3) /\ w'.cell? ⟨w.heap.size, 1, none⟩ = some (.int .i64 x.n) /\ w'.cell? ⟨w.heap.size, 2, none⟩ = some (.int .i64 x.s)) (by kernel_rfl) ?_ (fun hHeld => ?_)
         . exact ⟨y0, y1, y2, y3, e1, e2⟩
         refine held_t 0 hHeld ?_
         refine held_one (i := 1) (by kernel_rfl) rfl (by kernel_rfl) (fun K hK => ?_)
         go_simp
         refine (implMemOk_any _ E _ _ _ _ _ _ _ _ _ ss cs false bs R0.drew R1.drew R3.drew hwm).mono ?_
         rintro e w2 ⟨rfl, b2⟩
         rw [hM]
         have b2' : Below w1.heap.size w1 w2 := (Below.refl w1.heap.size w1).drew.trans b2
         clear b2
         go_wp2_with fail
         clear hHeld
         refine hK.out _ _ ?_ (fun hHeld => ?_)
         . exact ⟨(b2'.cell (p := ⟨wr.heap.size, 0, none⟩) zy).trans y0, (b2'.cell (p := ⟨wr.heap.size, 1, none⟩) zy).trans y1, (b2'.cell (p := ⟨wr.heap.size, 2, none⟩) zy).trans y2, (b2'.cell (p := ⟨wr.heap.size, 3, none⟩) zy).trans y3, (b2'.cell (p := ⟨w.heap.size, 1, none⟩) zx).trans e1, (b2'.cell (p := ⟨w.heap.size, 2, none⟩) zx).trans e2⟩
         clear hK K
         refine held_t 2 hHeld ?_
         refine held_t 3 hHeld ?_
         refine held_t 4 hHeld ?_
         refine held_t 5 hHeld ?_
         refine held_t 6 hHeld ?_
         refine held_t 7 hHeld ?_
         refine held_t 8 hHeld ?_
         refine held_one (i := 9) (by kernel_rfl) rfl (by kernel_rfl) (fun K hK => ?_)
         go_simp
         refine (sectorsOf_any _ x.n x.s ⟨g3, g4⟩).mono ?_
         rintro e w3 ⟨rfl, b3⟩
         have b3' : Below w1.heap.size w1 w3 := Below.andThen b2' b3
         clear b3
         go_wp2_with fail
         clear hHeld
         refine hK.out _ _ ?_ (fun hHeld => ?_)
         . exact ⟨(b3'.cell (p := ⟨wr.heap.size, 0, none⟩) zy).trans y0, (b3'.cell (p := ⟨wr.heap.size, 1, none⟩) zy).trans y1, (b3'.cell (p := ⟨wr.heap.size, 2, none⟩) zy).trans y2, (b3'.cell (p := ⟨wr.heap.size, 3, none⟩) zy).trans y3, (b3'.cell (p := ⟨w.heap.size, 1, none⟩) zx).trans e1, (b3'.cell (p := ⟨w.heap.size, 2, none⟩) zx).trans e2⟩
         clear hK K
         refine held_t 10 hHeld ?_
         refine held_t 11 hHeld ?_
         refine wpAnyH_done (by kernel_rfl) ?_ _
         clear hHeld
         have n0 := (b3'.cell (p := ⟨w.heap.size, 4, none⟩) zx).trans e4
         have n1 := (b3'.cell (p := ⟨w.heap.size, 12, none⟩) zx).trans e12
         have n2 := (b3'.cell (p := ⟨wr.heap.size, 2, none⟩) zy).trans y2
         have HB := hidden (B1.trans (b3'.mono B1.size))
         have hat : memAt x j (ss, cs, false, bs) = true := (by unfold memAt; simp [hM, HS.out])
         go_wp2
         go_roundw
         case rel => exact ⟨j + 1, by omega, by go_num, fun q m hq hm' => by
          rcases Nat.lt_or_ge q j with h | h
          . exact hall q m h hm'
          obtain rfl : q = j := by omega
          rw [HDJ.out] at hm'
          cases hm'
          exact hat, HB.out⟩
         case measure => simp [intOf]; omega
       by_cases hL : (j : Int) = x.lost
       . have hL1 : ((j : Int) == x.lost) = true := by simpa using hL
         have hL2 : ((j : Int) != x.lost) = false := by simpa using hL
         have HL := hidden hL
         clear hL
         go_wp2_with fail
         generalize wr.alloc (.cells #[.slice a0 ss.length c0, .slice a1 cs.length c1, .bool true, .slice a3 bs.length c3] 51) = w1 at X1 Y1 R0 R1 R3 B1 y0 y1 y2 y3 e1 e2 e4 e12 zy zx ⊢
         refine wp_region_held_drew (S := fun w' => w'.cell? ⟨wr.heap.size, 0, none⟩ = some (.slice a0 ss.length c0) /\ w'.cell? ⟨wr.heap.size, 1, none⟩ = some (.slice a1 cs.length c1) /\ w'.cell? ⟨wr.heap.size, 2, none⟩ = some (.bool true) /\ w'.cell? ⟨wr.heap.size, 3, none⟩ = some (.slice a3 bs.length c3) /\ w'.cell? ⟨w.heap.size, 1, none⟩ = some (.int .i64 x.n) /\ w'.cell? ⟨w.heap.size, 2, none⟩ = some (.int .i64 x.s)) (by kernel_rfl) ?_ (fun hHeld => ?_)
         . exact ⟨y0, y1, y2, y3, e1, e2⟩
         refine held_t 0 hHeld ?_
         refine held_one (i := 1) (by kernel_rfl) rfl (by kernel_rfl) (fun K hK => ?_)
         go_simp
         refine (implMemOk_any _ E _ _ _ _ _ _ _ _ _ ss cs true bs R0.drew R1.drew R3.drew hwm).mono ?_
         rintro e w2 ⟨rfl, b2⟩
         rw [hM]
         have b2' : Below w1.heap.size w1 w2 := (Below.refl w1.heap.size w1).drew.trans b2
         clear b2
         go_wp2_with fail
         clear hHeld
         refine hK.out _ _ ?_ (fun hHeld => ?_)
         . exact ⟨(b2'.cell (p := ⟨wr.heap.size, 0, none⟩) zy).trans y0, (b2'.cell (p := ⟨wr.heap.size, 1, none⟩) zy).trans y1, (b2'.cell (p := ⟨wr.heap.size, 2, none⟩) zy).trans y2, (b2'.cell (p := ⟨wr.heap.size, 3, none⟩) zy).trans y3, (b2'.cell (p := ⟨w.heap.size, 1, none⟩) zx).trans e1, (b2'.cell (p := ⟨w.heap.size, 2, none⟩) zx).trans e2⟩
         clear hK K
         refine held_t 2 hHeld ?_
         refine held_t 3 hHeld ?_
         refine held_t 4 hHeld ?_
         refine held_t 5 hHeld ?_
         refine held_t 6 hHeld ?_
         refine held_t 7 hHeld ?_
         refine held_t 8 hHeld ?_
         refine held_one (i := 9) (by kernel_rfl) rfl (by kernel_rfl) (fun K hK => ?_)
         go_simp
         refine (sectorsOf_any _ x.n x.s ⟨g3, g4⟩).mono ?_
         rintro e w3 ⟨rfl, b3⟩
         have b3' : Below w1.heap.size w1 w3 := Below.andThen b2' b3
         clear b3
         go_wp2_with fail
         clear hHeld
         refine hK.out _ _ ?_ (fun hHeld => ?_)
         . exact ⟨(b3'.cell (p := ⟨wr.heap.size, 0, none⟩) zy).trans y0, (b3'.cell (p := ⟨wr.heap.size, 1, none⟩) zy).trans y1, (b3'.cell (p := ⟨wr.heap.size, 2, none⟩) zy).trans y2, (b3'.cell (p := ⟨wr.heap.size, 3, none⟩) zy).trans y3, (b3'.cell (p := ⟨w.heap.size, 1, none⟩) zx).trans e1, (b3'.cell (p := ⟨w.heap.size, 2, none⟩) zx).trans e2⟩
         clear hK K
         refine held_t 10 hHeld ?_
         refine held_t 11 hHeld ?_
         refine wpAnyH_done (by kernel_rfl) ?_ _
         clear hHeld
         have n0 := (b3'.cell (p := ⟨w.heap.size, 4, none⟩) zx).trans e4
         have n1 := (b3'.cell (p := ⟨w.heap.size, 12, none⟩) zx).trans e12
         have n2 := (b3'.cell (p := ⟨wr.heap.size, 2, none⟩) zy).trans y2
         have HB := hidden (B1.trans (b3'.mono B1.size))
         have hat : memAt x j (ss, cs, true, bs) = true := (by unfold memAt; simp [hM, HS.out, HL.out])
         go_wp2
         go_roundw
         case rel => exact ⟨j + 1, by omega, by go_num, fun q m hq hm' => by
          rcases Nat.lt_or_ge q j with h | h
          . exact hall q m h hm'
          obtain rfl : q = j := by omega
          rw [HDJ.out] at hm'
          cases hm'
          exact hat, HB.out⟩
         case measure => simp [intOf]; omega
       have hL1 : ((j : Int) == x.lost) = false := by simpa using hL
       have hL2 : ((j : Int) != x.lost) = true := by simpa using hL
       have HL := hidden hL
       clear hL
       cases hBr : x.broken
       . rw [hBr] at e12
         go_wp2_with fail
         generalize wr.alloc (.cells #[.slice a0 ss.length c0, .slice a1 cs.length c1, .bool true, .slice a3 bs.length c3] 51) = w1 at X1 Y1 R0 R1 R3 B1 y0 y1 y2 y3 e1 e2 e4 e12 zy zx ⊢
         refine wp_region_held_drew (S := fun w' => w'.cell? ⟨wr.heap.size, 0, none⟩ = some (.slice a0 ss.length c0) /\ w'.cell? ⟨wr.heap.size, 1, none⟩ = some (.slice a1 cs.length c1) /\ w'.cell? ⟨wr.heap.size, 2, none⟩ = some (.bool true) /\ w'.cell? ⟨wr.heap.size, 3, none⟩ = some (.slice a3 bs.length c3) /\ w'.cell? ⟨w.heap.size, 1, none⟩ = some (.int .i64 x.n) /\ w'.cell? ⟨w.heap.size, 2, none⟩ = some (.int .i64 x.s)) (by kernel_rfl) ?_ (fun hHeld => ?_)
         . exact ⟨y0, y1, y2, y3, e1, e2⟩
         refine held_t 0 hHeld ?_
         refine held_one (i := 1) (by kernel_rfl) rfl (by kernel_rfl) (fun K hK => ?_)
         go_simp
         refine (implMemOk_any _ E _ _ _ _ _ _ _ _ _ ss cs true bs R0.drew R1.drew R3.drew hwm).mono ?_
         rintro e w2 ⟨rfl, b2⟩
         rw [hM]
         have b2' : Below w1.heap.size w1 w2 := (Below.refl w1.heap.size w1).drew.trans b2
         clear b2
         go_wp2_with fail
         clear hHeld
         refine hK.out _ _ ?_ (fun hHeld => ?_)
         . exact ⟨(b2'.cell (p := ⟨wr.heap.size, 0, none⟩) zy).trans y0, (b2'.cell (p := ⟨wr.heap.size, 1, none⟩) zy).trans y1, (b2'.cell (p := ⟨wr.heap.size, 2, none⟩) zy).trans y2, (b2'.cell (p := ⟨wr.heap.size, 3, none⟩) zy).trans y3, (b2'.cell (p := ⟨w.heap.size, 1, none⟩) zx).trans e1, (b2'.cell (p := ⟨w.heap.size, 2, none⟩) zx).trans e2⟩
         clear hK K
         refine held_t 2 hHeld ?_
         refine held_t 3 hHeld ?_
         refine held_t 4 hHeld ?_
         refine held_t 5 hHeld ?_
         refine held_t 6 hHeld ?_
         refine held_t 7 hHeld ?_
         refine held_t 8 hHeld ?_
         refine held_one (i := 9) (by kernel_rfl) rfl (by kernel_rfl) (fun K hK => ?_)
         go_simp
         refine (sectorsOf_any _ x.n x.s ⟨g3, g4⟩).mono ?_
         rintro e w3 ⟨rfl, b3⟩
         have b3' : Below w1.heap.size w1 w3 := Below.andThen b2' b3
         clear b3
         go_wp2_with fail
         clear hHeld
         refine hK.out _ _ ?_ (fun hHeld => ?_)
         . exact ⟨(b3'.cell (p := ⟨wr.heap.size, 0, none⟩) zy).trans y0, (b3'.cell (p := ⟨wr.heap.size, 1, none⟩) zy).trans y1, (b3'.cell (p := ⟨wr.heap.size, 2, none⟩) zy).trans y2, (b3'.cell (p := ⟨wr.heap.size, 3, none⟩) zy).trans y3, (b3'.cell (p := ⟨w.heap.size, 1, none⟩) zx).trans e1, (b3'.cell (p := ⟨w.heap.size, 2, none⟩) zx).trans e2⟩
         clear hK K
         refine held_t 10 hHeld ?_
         refine held_t 11 hHeld ?_
         refine wpAnyH_done (by kernel_rfl) ?_ _
         clear hHeld
         have n0 := (b3'.cell (p := ⟨w.heap.size, 4, none⟩) zx).trans e4
         have n1 := (b3'.cell (p := ⟨w.heap.size, 12, none⟩) zx).trans e12
         have n2 := (b3'.cell (p := ⟨wr.heap.size, 2, none⟩) zy).trans y2
         have HB := hidden (hA.trans ((B1.trans (b3'.mono B1.size)).mono hA.size))
         go_wp2
         go_ret
         exact ⟨ret_bool (by rw [show memsB x ms = false from (by unfold memsB; rw [allIx_no HDJ.out (by unfold memAt; simp [HL.out, hBr])]; rfl)]), HB.out⟩
       rw [hBr] at e12
       go_wp2_with fail
       generalize wr.alloc (.cells #[.slice a0 ss.length c0, .slice a1 cs.length c1, .bool true, .slice a3 bs.length c3] 51) = w1 at X1 Y1 R0 R1 R3 B1 y0 y1 y2 y3 e1 e2 e4 e12 zy zx ⊢
       refine wp_region_held_drew (S := fun w' => w'.cell? ⟨wr.heap.size, 0, none⟩ = some (.slice a0 ss.length c0) /\ w'.cell? ⟨wr.heap.size, 1, none⟩ = some (.slice a1 cs.length c1) /\ w'.cell? ⟨wr.heap.size, 2, none⟩ = some (.bool true) /\ w'.cell? ⟨wr.heap.size, 3, none⟩ = some (.slice a3 bs.length c3) /\ w'.cell? ⟨w.heap.size, 1, none⟩ = some (.int .i64 x.n) /\ w'.cell? ⟨w.heap.size, 2, none⟩ = some (.int .i64 x.s)) (by kernel_rfl) ?_ (fun hHeld => ?_)
       . exact ⟨y0, y1, y2, y3, e1, e2⟩
       refine held_t 0 hHeld ?_
       refine held_one (i := 1) (by kernel_rfl) rfl (by kernel_rfl) (fun K hK => ?_)
       go_simp
       refine (implMemOk_any _ E _ _ _ _ _ _ _ _ _ ss cs true bs R0.drew R1.drew R3.drew hwm).mono ?_
       rintro e w2 ⟨rfl, b2⟩
       rw [hM]
       have b2' : Below w1.heap.size w1 w2 := (Below.refl w1.heap.size w1).drew.trans b2
       clear b2
       go_wp2_with fail
       clear hHeld
       refine hK.out _ _ ?_ (fun hHeld => ?_)
       . exact ⟨(b2'.cell (p := ⟨wr.heap.size, 0, none⟩) zy).trans y0, (b2'.cell (p := ⟨wr.heap.size, 1, none⟩) zy).trans y1, (b2'.cell (p := ⟨wr.heap.size, 2, none⟩) zy).trans y2, (b2'.cell (p := ⟨wr.heap.size, 3, none⟩) zy).trans y3, (b2'.cell (p := ⟨w.heap.size, 1, none⟩) zx).trans e1, (b2'.cell (p := ⟨w.heap.size, 2, none⟩) zx).trans e2⟩
       clear hK K
       refine held_t 2 hHeld ?_
       refine held_t 3 hHeld ?_
       refine held_t 4 hHeld ?_
       refine held_t 5 hHeld ?_
       refine held_t 6 hHeld ?_
       refine held_t 7 hHeld ?_
       refine held_t 8 hHeld ?_
       refine held_one (i := 9) (by kernel_rfl) rfl (by kernel_rfl) (fun K hK => ?_)
       go_simp
       refine (sectorsOf_any _ x.n x.s ⟨g3, g4⟩).mono ?_
       rintro e w3 ⟨rfl, b3⟩
       have b3' : Below w1.heap.size w1 w3 := Below.andThen b2' b3
       clear b3
       go_wp2_with fail
       clear hHeld
       refine hK.out _ _ ?_ (fun hHeld => ?_)
       . exact ⟨(b3'.cell (p := ⟨wr.heap.size, 0, none⟩) zy).trans y0, (b3'.cell (p := ⟨wr.heap.size, 1, none⟩) zy).trans y1, (b3'.cell (p := ⟨wr.heap.size, 2, none⟩) zy).trans y2, (b3'.cell (p := ⟨wr.heap.size, 3, none⟩) zy).trans y3, (b3'.cell (p := ⟨w.heap.size, 1, none⟩) zx).trans e1, (b3'.cell (p := ⟨w.heap.size, 2, none⟩) zx).trans e2⟩
       clear hK K
       refine held_t 10 hHeld ?_
       refine held_t 11 hHeld ?_
       refine wpAnyH_done (by kernel_rfl) ?_ _
       clear hHeld
       have n0 := (b3'.cell (p := ⟨w.heap.size, 4, none⟩) zx).trans e4
       have n1 := (b3'.cell (p := ⟨w.heap.size, 12, none⟩) zx).trans e12
       have n2 := (b3'.cell (p := ⟨wr.heap.size, 2, none⟩) zy).trans y2
       have HB := hidden (B1.trans (b3'.mono B1.size))
       have hat : memAt x j (ss, cs, true, bs) = true := (by unfold memAt; simp [hM, HS.out, hBr])
       go_wp2
       go_roundw
       case rel => exact ⟨j + 1, by omega, by go_num, fun q m hq hm' => by
        rcases Nat.lt_or_ge q j with h | h
        . exact hall q m h hm'
        obtain rfl : q = j := by omega
        rw [HDJ.out] at hm'
        cases hm'
        exact hat, HB.out⟩
       case measure => simp [intOf]; omega
     have hS1 : ((ss.length : Int) == 6 + x.s) = false := by simpa using hS
     have hS2 : ((ss.length : Int) != 6 + x.s) = true := by simpa using hS
     have HS := hidden hS
     clear hS
     go_wp2_with fail
     generalize wr.alloc (.cells #[.slice a0 ss.length c0, .slice a1 cs.length c1, .bool f, .slice a3 bs.length c3] 51) = w1 at X1 Y1 R0 R1 R3 B1 y0 y1 y2 y3 e1 e2 e4 e12 zy zx ⊢
     refine wp_region_held_drew (S := fun w' => w'.cell? ⟨wr.heap.size, 0, none⟩ = some (.slice a0 ss.length c0) /\ w'.cell? ⟨wr.heap.size, 1, none⟩ = some (.slice a1 cs.length c1) /\ w'.cell? ⟨wr.heap.size, 2, none⟩ = some (.bool f) /\ w'.cell? ⟨wr.heap.size, 3, none⟩ = some (.slice a3 bs.length c3) /\ w'.cell? ⟨w.heap.size, 1, none⟩ = some (.int .i64 x.n) /\ w'.cell? ⟨w.heap.size, 2, none⟩ = some (.int .i64 x.s)) (by kernel_rfl) ?_ (fun hHeld => ?_)
     . exact ⟨y0, y1, y2, y3, e1, e2⟩
     refine held_t 0 hHeld ?_
     refine held_one (i := 1) (by kernel_rfl) rfl (by kernel_rfl) (fun K hK => ?_)
     go_simp
     refine (implMemOk_any _ E _ _ _ _ _ _ _ _ _ ss cs f bs R0.drew R1.drew R3.drew hwm).mono ?_
     rintro e w2 ⟨rfl, b2⟩
     rw [hM]
     have b2' : Below w1.heap.size w1 w2 := (Below.refl w1.heap.size w1).drew.trans b2
     clear b2
     go_wp2_with fail
     clear hHeld
     refine hK.out _ _ ?_ (fun hHeld => ?_)
     . exact ⟨(b2'.cell (p := ⟨wr.heap.size, 0, none⟩) zy).trans y0, (b2'.cell (p := ⟨wr.heap.size, 1, none⟩) zy).trans y1, (b2'.cell (p := ⟨wr.heap.size, 2, none⟩) zy).trans y2, (b2'.cell (p := ⟨wr.heap.size, 3, none⟩) zy).trans y3, (b2'.cell (p := ⟨w.heap.size, 1, none⟩) zx).trans e1, (b2'.cell (p := ⟨w.heap.size, 2, none⟩) zx).trans e2⟩
     clear hK K
     refine held_t 2 hHeld ?_
     refine held_t 3 hHeld ?_
     refine held_t 4 hHeld ?_
     refine held_t 5 hHeld ?_
     refine held_t 6 hHeld ?_
     refine held_t 7 hHeld ?_
     refine held_t 8 hHeld ?_
     refine held_one (i := 9) (by kernel_rfl) rfl (by kernel_rfl) (fun K hK => ?_)
     go_simp
     refine (sectorsOf_any _ x.n x.s ⟨g3, g4⟩).mono ?_
     rintro e w3 ⟨rfl, b3⟩
     have b3' : Below w1.heap.size w1 w3 := Below.andThen b2' b3
     clear b3
     go_wp2_with fail
     clear hHeld
     refine hK.out _ _ ?_ (fun hHeld => ?_)
     . exact ⟨(b3'.cell (p := ⟨wr.heap.size, 0, none⟩) zy).trans y0, (b3'.cell (p := ⟨wr.heap.size, 1, none⟩) zy).trans y1, (b3'.cell (p := ⟨wr.heap.size, 2, none⟩) zy).trans y2, (b3'.cell (p := ⟨wr.heap.size, 3, none⟩) zy).trans y3, (b3'.cell (p := ⟨w.heap.size, 1, none⟩) zx).trans e1, (b3'.cell (p := ⟨w.heap.size, 2, none⟩) zx).trans e2⟩
     clear hK K
     refine held_t 10 hHeld ?_
     refine held_t 11 hHeld ?_
     refine wpAnyH_done (by kernel_rfl) ?_ _
     clear hHeld
     have n0 := (b3'.cell (p := ⟨w.heap.size, 4, none⟩) zx).trans e4
     have n1 := (b3'.cell (p := ⟨w.heap.size, 12, none⟩) zx).trans e12
     have n2 := (b3'.cell (p := ⟨wr.heap.size, 2, none⟩) zy).trans y2
     have HB := hidden (hA.trans ((B1.trans (b3'.mono B1.size)).mono hA.size))
     go_wp2
     go_ret
     exact ⟨ret_bool (by rw [show memsB x ms = false from (by unfold memsB; rw [allIx_no HDJ.out (by unfold memAt; simp [HS.out])]; rfl)]), HB.out⟩
   have e : j = nm := by omega
   subst e
   have hAll : allIx (memAt x) ms = true := allIx_iff.2 (fun q m hq => hall q m (by have := (List.getElem?_eq_some_iff.1 hq).1; omega) hq)
   have HB := hidden (hA.trans (hb.mono hA.size))
   have hR : memsB x ms = true := by unfold memsB; rw [hAll, hl]; simpa using HN.out
   go_wp2
   go_ret
   exact ⟨ret_bool hR.symm, HB.out⟩
 have hN1 : ((nm : Int) == x.n) = false := by simpa using hN
 have hN2 : ((nm : Int) != x.n) = true := by simpa using hN
 have hR : memsB x ms = false := by unfold memsB; rw [hl]; simp [hN]
 have HR := hidden hR
 clear hN hR
 go_enter Tryz.func72, Tryz.ntmps72
 go_wp2
 go_ret
 exact ⟨ret_bool HR.out.symm, hA⟩

theorem dirtyOk_any (w : World) (G : TypeId) (x : ArrN) (am ad : Option Addr) (nm cm nd cd : Nat) (ds : List (Int × List Int)) (h0 : (tWrS G).Rd w [.slice ad nd cd] ds) (hw : wtWrS ds <= 2097152) (hg : geoB x.n x.s = true) :
 Calls Tryz.prog 74 #[.agg #[.int .i64 x.id, .int .i64 x.n, .int .i64 x.s, .slice am nm cm, .int .i64 x.lost, .int .i64 x.built, .int .i64 x.seq, .int .i64 x.tail, .int .i64 x.gen, .slice ad nd cd, .int .i64 x.fuse, .bool x.down, .bool x.broken]] w fun e w' => e = .returned (.bool (entsB x ds)) /\ Below w.heap.size w w' := by
 obtain ⟨hl, hc, hm⟩ := row_length h0
 obtain ⟨g1, g2, g3, g4⟩ := geoB_iff.1 hg
 have hA := new_below w (.cells #[.int .i64 x.id, .int .i64 x.n, .int .i64 x.s, .slice am nm cm, .int .i64 x.lost, .int .i64 x.built, .int .i64 x.seq, .int .i64 x.tail, .int .i64 x.gen, .slice ad nd cd, .int .i64 x.fuse, .bool x.down, .bool x.broken] 33)
 have X := Box.new w 33 #[.int .i64 x.id, .int .i64 x.n, .int .i64 x.s, .slice am nm cm, .int .i64 x.lost, .int .i64 x.built, .int .i64 x.seq, .int .i64 x.tail, .int .i64 x.gen, .slice ad nd cd, .int .i64 x.fuse, .bool x.down, .bool x.broken]
 have zA := X.lt
 have hnd : nd <= 2097152 := by unfold wtWrS at hw; omega
 have h1 := h0.below hA
 obtain ⟨k0, k1, k2, k3, k4, k5, k6, k7, k8, k9, k10, k11, k12⟩ := X.cells13
 go_enter Tryz.func74, Tryz.ntmps74
 go_wp2
 generalize w.alloc (.cells #[.int .i64 x.id, .int .i64 x.n, .int .i64 x.s, .slice am nm cm, .int .i64 x.lost, .int .i64 x.built, .int .i64 x.seq, .int .i64 x.tail, .int .i64 x.gen, .slice ad nd cd, .int .i64 x.fuse, .bool x.down, .bool x.broken] 33) = W at hA X zA h1 k0 k1 k2 k3 k4 k5 k6 k7 k8 k9 k10 k11 k12 ⊢
 clear k0 k1 k2 k3 k4 k5 k6 k7 k8 k9 k10 k11 k12
 go_loopw [8] (fun i wr => ∃ j : Nat, j <= nd /\ i = .int .i64 j /\ (∀ (q : Nat) (d : Int × List Int), q < j -> ds[q]? = some d -> entAt x ds q d = true) /\ Below W.heap.size W wr) (fun i _ => nd - (intOf i).toNat)
 case atStart => exact ⟨0, Nat.zero_le _, rfl, fun q d hq => by omega, Below.refl _ _⟩
 obtain ⟨j, hj, rfl, hall, hb⟩ := hrel
 have Xr := X.below hb zA
 by_cases hjn : j < nd
 . rcases pairs_at rfl h1 with h0' | ⟨b, off, rfl, hbl, hcs⟩
   . omega
   have hdj : ds[j]? = some (ds[j]'(by omega)) := List.getElem?_eq_getElem (by omega)
   generalize ds[j]'(by omega) = d at hdj
   obtain ⟨v0, v1, hv0, hv1, hrv⟩ := hcs j d hdj
   obtain ⟨rfl, hrw⟩ := wr_rd hrv
   obtain ⟨av, cv, rfl⟩ := row_shape hrw
   obtain ⟨y, zs⟩ := d
   simp only at hv0 hv1 hrw hrv
   have u0 := (hb.cell (p := ⟨b, off + j * 2, none⟩) hbl).trans hv0
   have u1 := (hb.cell (p := ⟨b, off + j * 2 + 1, none⟩) hbl).trans hv1
   have i1 : (0 : Int) <= (j : Int) := by omega
   have i2 : (j : Int) < (nd : Int) := by omega
   have hwz : zs.length <= 2097152 := Nat.le_trans (inner_le' hdj) hw
   have HDJ := hidden hdj
   have b1 := new_below wr (.cells #[.int .i64 y, .slice av zs.length cv] 82)
   have Y1 := Box.new wr 82 #[.int .i64 y, .slice av zs.length cv]
   have X1 := Xr.below b1 Xr.lt
   have RZ := (hrw.below hb).below b1
   have B1 := hb.trans (b1.mono hb.size)
   obtain ⟨y0, y1⟩ := Y1.cells2
   obtain ⟨e0, e1, e2, e3, e4, e5, e6, e7, e8, e9, e10, e11, e12⟩ := X1.cells13
   have zy := Y1.lt
   have zx := X1.lt
   have zb : b < (wr.alloc (.cells #[.int .i64 y, .slice av zs.length cv] 82)).heap.size := Nat.lt_of_lt_of_le hbl B1.size
   have hq : ∀ (p : Nat) (q : Int × List Int), ds[p]? = some q -> (wr.alloc (.cells #[.int .i64 y, .slice av zs.length cv] 82)).cell? ⟨b, off + p * 2, none⟩ = some (.int .i64 q.1) := fun p q hpq => by
    obtain ⟨c0, c1, hc0, hc1, hrc⟩ := hcs p q hpq
    obtain ⟨rfl, _⟩ := wr_rd hrc
    exact (B1.cell (p := ⟨b, off + p * 2, none⟩) hbl).trans hc0
   have HQ := hidden hq
   clear hcs hv0 hv1 hrv hrw hdj hq b1 e0 e3 e4 e5 e6 e7 e8 e10 e11 e12
   cases hI : stripeB x.n x.s y
   . skip
     go_wp2_with fail
     generalize wr.alloc (.cells #[.int .i64 y, .slice av zs.length cv] 82) = w1 at X1 Y1 RZ B1 y0 y1 e1 e2 e9 zy zx zb HQ  ⊢
     refine wp_region_held_drew (S := fun w' => w'.cell? ⟨wr.heap.size, 0, none⟩ = some (.int .i64 y) /\ w'.cell? ⟨w.heap.size, 1, none⟩ = some (.int .i64 x.n) /\ w'.cell? ⟨w.heap.size, 2, none⟩ = some (.int .i64 x.s) /\ w'.cell? ⟨w.heap.size, 9, none⟩ = some (.slice (some ⟨b, off, none⟩) nd cd)) (by kernel_rfl) ?_ (fun hHeld => ?_)
     . exact ⟨y0, e1, e2, e9⟩
     refine held_t 0 hHeld ?_
     refine held_t 1 hHeld ?_
     refine held_t 2 hHeld ?_
     refine held_t 3 hHeld ?_
     refine held_one (i := 4) (by kernel_rfl) rfl (by kernel_rfl) (fun K hK => ?_)
     go_simp
     refine (hasStripe_any _ x.n x.s y).mono ?_
     rintro e w2 ⟨rfl, b2⟩
     have b2' : Below w1.heap.size w1 w2 := (Below.refl w1.heap.size w1).drew.trans b2
     clear b2
     rw [hI]
     go_wp2_with fail
     clear hHeld
     refine hK.out _ _ ?_ (fun hHeld => ?_)
     . exact ⟨(b2'.cell (p := ⟨wr.heap.size, 0, none⟩) zy).trans y0, (b2'.cell (p := ⟨w.heap.size, 1, none⟩) zx).trans e1, (b2'.cell (p := ⟨w.heap.size, 2, none⟩) zx).trans e2, (b2'.cell (p := ⟨w.heap.size, 9, none⟩) zx).trans e9⟩
     clear hK K
     refine held_t 5 hHeld ?_
     refine held_t 6 hHeld ?_
     refine held_p 7 hHeld ?_
     refine held_p 8 hHeld ?_
     refine held_p 9 hHeld ?_
     refine held_p 10 hHeld ?_
     refine held_p 11 hHeld ?_
     refine held_p 12 hHeld ?_
     refine held_p 13 hHeld ?_
     refine held_p 14 hHeld ?_
     refine held_p 15 hHeld ?_
     refine held_p 16 hHeld ?_
     refine held_p 17 hHeld ?_
     refine held_p 18 hHeld ?_
     refine held_p 19 hHeld ?_
     refine held_p 20 hHeld ?_
     refine held_t 21 hHeld ?_
     refine wpAnyH_done (by kernel_rfl) ?_ _
     clear hHeld
     have HB := hidden (hA.trans ((B1.trans (b2'.mono B1.size)).mono hA.size))
     have HE := hidden (entsB_no (x := x) HDJ.out (entAt_1 (by rw [← stripe_in6 hg]; exact hI)))
     go_wp2
     go_ret
     exact ⟨ret_bool HE.out.symm, HB.out⟩
   have HI := hidden ((stripe_in6 hg).symm.trans hI)
   by_cases hj0 : j = 0
   . subst hj0
     simp only [Nat.zero_mul, Nat.add_zero] at u0 u1
     by_cases hL : (zs.length : Int) = x.n - 1
     . have hL1 : ((zs.length : Int) == x.n - 1) = true := by simpa using hL
       have hL2 : ((zs.length : Int) != x.n - 1) = false := by simpa using hL
       have HL := hidden hL
       have hsa : secB zs = allW zs := sec_all6 (by omega)
       have HSA := hidden hsa
       clear hL hsa
       cases hZ : secB zs
       . have HZ := hidden (HSA.out.symm.trans hZ)
         go_wp2_with fail
         generalize wr.alloc (.cells #[.int .i64 y, .slice av zs.length cv] 82) = w1 at X1 Y1 RZ B1 y0 y1 e1 e2 e9 zy zx zb HQ  ⊢
         refine wp_region_held_drew (S := fun w' => w'.cell? ⟨wr.heap.size, 0, none⟩ = some (.int .i64 y) /\ w'.cell? ⟨w.heap.size, 1, none⟩ = some (.int .i64 x.n) /\ w'.cell? ⟨w.heap.size, 2, none⟩ = some (.int .i64 x.s) /\ w'.cell? ⟨w.heap.size, 9, none⟩ = some (.slice (some ⟨b, off, none⟩) nd cd)) (by kernel_rfl) ?_ (fun hHeld => ?_)
         . exact ⟨y0, e1, e2, e9⟩
         refine held_t 0 hHeld ?_
         refine held_t 1 hHeld ?_
         refine held_t 2 hHeld ?_
         refine held_t 3 hHeld ?_
         refine held_one (i := 4) (by kernel_rfl) rfl (by kernel_rfl) (fun K hK => ?_)
         go_simp
         refine (hasStripe_any _ x.n x.s y).mono ?_
         rintro e w2 ⟨rfl, b2⟩
         have b2' : Below w1.heap.size w1 w2 := (Below.refl w1.heap.size w1).drew.trans b2
         clear b2
         rw [hI]
         go_wp2_with fail
         clear hHeld
         refine hK.out _ _ ?_ (fun hHeld => ?_)
         . exact ⟨(b2'.cell (p := ⟨wr.heap.size, 0, none⟩) zy).trans y0, (b2'.cell (p := ⟨w.heap.size, 1, none⟩) zx).trans e1, (b2'.cell (p := ⟨w.heap.size, 2, none⟩) zx).trans e2, (b2'.cell (p := ⟨w.heap.size, 9, none⟩) zx).trans e9⟩
         clear hK K
         refine held_t 5 hHeld ?_
         refine held_t 6 hHeld ?_
         refine held_t 7 hHeld ?_
         refine held_t 8 hHeld ?_
         refine held_t 9 hHeld ?_
         refine held_p 10 hHeld ?_
         refine held_p 11 hHeld ?_
         refine held_p 12 hHeld ?_
         refine held_p 13 hHeld ?_
         refine held_p 14 hHeld ?_
         refine held_p 15 hHeld ?_
         refine held_p 16 hHeld ?_
         refine held_p 17 hHeld ?_
         refine held_p 18 hHeld ?_
         refine held_p 19 hHeld ?_
         refine held_t 20 hHeld ?_
         refine held_t 21 hHeld ?_
         refine wpAnyH_done (by kernel_rfl) ?_ _
         clear hHeld
         have my1 := (b2'.cell (p := ⟨wr.heap.size, 1, none⟩) zy).trans y1
         have me1 := (b2'.cell (p := ⟨w.heap.size, 1, none⟩) zx).trans e1
         have me2 := (b2'.cell (p := ⟨w.heap.size, 2, none⟩) zx).trans e2
         have my := Nat.lt_of_lt_of_le zy b2'.size
         have mx := Nat.lt_of_lt_of_le zx b2'.size
         have RZ2 := RZ.below b2'
         go_wp2_with fail
         refine wp_region_held_drew (S := fun w' => w'.cell? ⟨wr.heap.size, 1, none⟩ = some (.slice av zs.length cv) /\ w'.cell? ⟨w.heap.size, 1, none⟩ = some (.int .i64 x.n) /\ w'.cell? ⟨w.heap.size, 2, none⟩ = some (.int .i64 x.s)) (by kernel_rfl) ?_ (fun hHeld => ?_)
         . exact ⟨my1, me1, me2⟩
         refine held_t 0 hHeld ?_
         refine held_t 1 hHeld ?_
         refine held_t 2 hHeld ?_
         refine held_t 3 hHeld ?_
         refine held_t 4 hHeld ?_
         refine held_one (i := 5) (by kernel_rfl) rfl (by kernel_rfl) (fun K hK => ?_)
         go_simp
         refine (perStripe_any _ x.n x.s g1 g2).mono ?_
         rintro e w3 ⟨rfl, b3⟩
         have b3' : Below w2.heap.size w2 w3 := (Below.refl w2.heap.size w2).drew.trans b3
         clear b3
         go_wp2_with fail
         clear hHeld
         refine hK.out _ _ ?_ (fun hHeld => ?_)
         . exact ⟨(b3'.cell (p := ⟨wr.heap.size, 1, none⟩) my).trans my1, (b3'.cell (p := ⟨w.heap.size, 1, none⟩) mx).trans me1, (b3'.cell (p := ⟨w.heap.size, 2, none⟩) mx).trans me2⟩
         clear hK K
         refine held_t 6 hHeld ?_
         refine held_t 7 hHeld ?_
         refine held_t 8 hHeld ?_
         refine held_t 9 hHeld ?_
         refine held_one (i := 10) (by kernel_rfl) rfl (by kernel_rfl) (fun K hK => ?_)
         go_simp
         refine (implSecOk_any _ _ _ _ zs rfl (ints_rd (RZ2.below b3')).1 hwz).mono ?_
         rintro e w4 ⟨rfl, s4⟩
         have b4' : Below w2.heap.size w2 w4 := Below.andThen b3' (s4.below _)
         clear s4
         rw [hZ]
         go_wp2_with fail
         clear hHeld
         refine hK.out _ _ ?_ (fun hHeld => ?_)
         . exact ⟨(b4'.cell (p := ⟨wr.heap.size, 1, none⟩) my).trans my1, (b4'.cell (p := ⟨w.heap.size, 1, none⟩) mx).trans me1, (b4'.cell (p := ⟨w.heap.size, 2, none⟩) mx).trans me2⟩
         clear hK K
         refine held_t 11 hHeld ?_
         refine held_t 12 hHeld ?_
         refine wpAnyH_done (by kernel_rfl) ?_ _
         clear hHeld
         have HB := hidden (hA.trans ((B1.trans ((Below.andThen b2' b4').mono B1.size)).mono hA.size))
         have HE := hidden (entsB_no (x := x) HDJ.out (entAt_3 HZ.out))
         go_wp2
         go_ret
         exact ⟨ret_bool HE.out.symm, HB.out⟩
       have HZ := hidden (HSA.out.symm.trans hZ)
       go_wp2_with fail
       generalize wr.alloc (.cells #[.int .i64 y, .slice av zs.length cv] 82) = w1 at X1 Y1 RZ B1 y0 y1 e1 e2 e9 zy zx zb HQ  ⊢
       refine wp_region_held_drew (S := fun w' => w'.cell? ⟨wr.heap.size, 0, none⟩ = some (.int .i64 y) /\ w'.cell? ⟨w.heap.size, 1, none⟩ = some (.int .i64 x.n) /\ w'.cell? ⟨w.heap.size, 2, none⟩ = some (.int .i64 x.s) /\ w'.cell? ⟨w.heap.size, 9, none⟩ = some (.slice (some ⟨b, off, none⟩) nd cd)) (by kernel_rfl) ?_ (fun hHeld => ?_)
       . exact ⟨y0, e1, e2, e9⟩
       refine held_t 0 hHeld ?_
       refine held_t 1 hHeld ?_
       refine held_t 2 hHeld ?_
       refine held_t 3 hHeld ?_
       refine held_one (i := 4) (by kernel_rfl) rfl (by kernel_rfl) (fun K hK => ?_)
       go_simp
       refine (hasStripe_any _ x.n x.s y).mono ?_
       rintro e w2 ⟨rfl, b2⟩
       have b2' : Below w1.heap.size w1 w2 := (Below.refl w1.heap.size w1).drew.trans b2
       clear b2
       rw [hI]
       go_wp2_with fail
       clear hHeld
       refine hK.out _ _ ?_ (fun hHeld => ?_)
       . exact ⟨(b2'.cell (p := ⟨wr.heap.size, 0, none⟩) zy).trans y0, (b2'.cell (p := ⟨w.heap.size, 1, none⟩) zx).trans e1, (b2'.cell (p := ⟨w.heap.size, 2, none⟩) zx).trans e2, (b2'.cell (p := ⟨w.heap.size, 9, none⟩) zx).trans e9⟩
       clear hK K
       refine held_t 5 hHeld ?_
       refine held_t 6 hHeld ?_
       refine held_t 7 hHeld ?_
       refine held_t 8 hHeld ?_
       refine held_t 9 hHeld ?_
       refine held_p 10 hHeld ?_
       refine held_p 11 hHeld ?_
       refine held_p 12 hHeld ?_
       refine held_p 13 hHeld ?_
       refine held_p 14 hHeld ?_
       refine held_p 15 hHeld ?_
       refine held_p 16 hHeld ?_
       refine held_p 17 hHeld ?_
       refine held_p 18 hHeld ?_
       refine held_p 19 hHeld ?_
       refine held_t 20 hHeld ?_
       refine held_t 21 hHeld ?_
       refine wpAnyH_done (by kernel_rfl) ?_ _
       clear hHeld
       have my1 := (b2'.cell (p := ⟨wr.heap.size, 1, none⟩) zy).trans y1
       have me1 := (b2'.cell (p := ⟨w.heap.size, 1, none⟩) zx).trans e1
       have me2 := (b2'.cell (p := ⟨w.heap.size, 2, none⟩) zx).trans e2
       have my := Nat.lt_of_lt_of_le zy b2'.size
       have mx := Nat.lt_of_lt_of_le zx b2'.size
       have RZ2 := RZ.below b2'
       go_wp2_with fail
       refine wp_region_held_drew (S := fun w' => w'.cell? ⟨wr.heap.size, 1, none⟩ = some (.slice av zs.length cv) /\ w'.cell? ⟨w.heap.size, 1, none⟩ = some (.int .i64 x.n) /\ w'.cell? ⟨w.heap.size, 2, none⟩ = some (.int .i64 x.s)) (by kernel_rfl) ?_ (fun hHeld => ?_)
       . exact ⟨my1, me1, me2⟩
       refine held_t 0 hHeld ?_
       refine held_t 1 hHeld ?_
       refine held_t 2 hHeld ?_
       refine held_t 3 hHeld ?_
       refine held_t 4 hHeld ?_
       refine held_one (i := 5) (by kernel_rfl) rfl (by kernel_rfl) (fun K hK => ?_)
       go_simp
       refine (perStripe_any _ x.n x.s g1 g2).mono ?_
       rintro e w3 ⟨rfl, b3⟩
       have b3' : Below w2.heap.size w2 w3 := (Below.refl w2.heap.size w2).drew.trans b3
       clear b3
       go_wp2_with fail
       clear hHeld
       refine hK.out _ _ ?_ (fun hHeld => ?_)
       . exact ⟨(b3'.cell (p := ⟨wr.heap.size, 1, none⟩) my).trans my1, (b3'.cell (p := ⟨w.heap.size, 1, none⟩) mx).trans me1, (b3'.cell (p := ⟨w.heap.size, 2, none⟩) mx).trans me2⟩
       clear hK K
       refine held_t 6 hHeld ?_
       refine held_t 7 hHeld ?_
       refine held_t 8 hHeld ?_
       refine held_t 9 hHeld ?_
       refine held_one (i := 10) (by kernel_rfl) rfl (by kernel_rfl) (fun K hK => ?_)
       go_simp
       refine (implSecOk_any _ _ _ _ zs rfl (ints_rd (RZ2.below b3')).1 hwz).mono ?_
       rintro e w4 ⟨rfl, s4⟩
       have b4' : Below w2.heap.size w2 w4 := Below.andThen b3' (s4.below _)
       clear s4
       rw [hZ]
       go_wp2_with fail
       clear hHeld
       refine hK.out _ _ ?_ (fun hHeld => ?_)
       . exact ⟨(b4'.cell (p := ⟨wr.heap.size, 1, none⟩) my).trans my1, (b4'.cell (p := ⟨w.heap.size, 1, none⟩) mx).trans me1, (b4'.cell (p := ⟨w.heap.size, 2, none⟩) mx).trans me2⟩
       clear hK K
       refine held_t 11 hHeld ?_
       refine held_t 12 hHeld ?_
       refine wpAnyH_done (by kernel_rfl) ?_ _
       clear hHeld
       have HB := hidden (B1.trans ((Below.andThen b2' b4').mono B1.size))
       have hat : entAt x ds (0) (y, zs) = true := entAt_4 HI.out HL.out HZ.out
       go_wp2
       go_roundw
       case rel => exact ⟨0 + 1, by omega, by go_num, fun q d hq hm' => by
        rcases Nat.lt_or_ge q (0) with h | h
        . exact hall q d h hm'
        obtain rfl : q = 0 := by omega
        rw [HDJ.out] at hm'
        cases hm'
        exact hat, HB.out⟩
       case measure => simp [intOf]; omega
     have hL1 : ((zs.length : Int) == x.n - 1) = false := by simpa using hL
     have hL2 : ((zs.length : Int) != x.n - 1) = true := by simpa using hL
     have HL := hidden hL
     clear hL
     go_wp2_with fail
     generalize wr.alloc (.cells #[.int .i64 y, .slice av zs.length cv] 82) = w1 at X1 Y1 RZ B1 y0 y1 e1 e2 e9 zy zx zb HQ  ⊢
     refine wp_region_held_drew (S := fun w' => w'.cell? ⟨wr.heap.size, 0, none⟩ = some (.int .i64 y) /\ w'.cell? ⟨w.heap.size, 1, none⟩ = some (.int .i64 x.n) /\ w'.cell? ⟨w.heap.size, 2, none⟩ = some (.int .i64 x.s) /\ w'.cell? ⟨w.heap.size, 9, none⟩ = some (.slice (some ⟨b, off, none⟩) nd cd)) (by kernel_rfl) ?_ (fun hHeld => ?_)
     . exact ⟨y0, e1, e2, e9⟩
     refine held_t 0 hHeld ?_
     refine held_t 1 hHeld ?_
     refine held_t 2 hHeld ?_
     refine held_t 3 hHeld ?_
     refine held_one (i := 4) (by kernel_rfl) rfl (by kernel_rfl) (fun K hK => ?_)
     go_simp
     refine (hasStripe_any _ x.n x.s y).mono ?_
     rintro e w2 ⟨rfl, b2⟩
     have b2' : Below w1.heap.size w1 w2 := (Below.refl w1.heap.size w1).drew.trans b2
     clear b2
     rw [hI]
     go_wp2_with fail
     clear hHeld
     refine hK.out _ _ ?_ (fun hHeld => ?_)
     . exact ⟨(b2'.cell (p := ⟨wr.heap.size, 0, none⟩) zy).trans y0, (b2'.cell (p := ⟨w.heap.size, 1, none⟩) zx).trans e1, (b2'.cell (p := ⟨w.heap.size, 2, none⟩) zx).trans e2, (b2'.cell (p := ⟨w.heap.size, 9, none⟩) zx).trans e9⟩
     clear hK K
     refine held_t 5 hHeld ?_
     refine held_t 6 hHeld ?_
     refine held_t 7 hHeld ?_
     refine held_t 8 hHeld ?_
     refine held_t 9 hHeld ?_
     refine held_p 10 hHeld ?_
     refine held_p 11 hHeld ?_
     refine held_p 12 hHeld ?_
     refine held_p 13 hHeld ?_
     refine held_p 14 hHeld ?_
     refine held_p 15 hHeld ?_
     refine held_p 16 hHeld ?_
     refine held_p 17 hHeld ?_
     refine held_p 18 hHeld ?_
     refine held_p 19 hHeld ?_
     refine held_t 20 hHeld ?_
     refine held_t 21 hHeld ?_
     refine wpAnyH_done (by kernel_rfl) ?_ _
     clear hHeld
     have my1 := (b2'.cell (p := ⟨wr.heap.size, 1, none⟩) zy).trans y1
     have me1 := (b2'.cell (p := ⟨w.heap.size, 1, none⟩) zx).trans e1
     have me2 := (b2'.cell (p := ⟨w.heap.size, 2, none⟩) zx).trans e2
     have my := Nat.lt_of_lt_of_le zy b2'.size
     have mx := Nat.lt_of_lt_of_le zx b2'.size
     have RZ2 := RZ.below b2'
     go_wp2_with fail
     refine wp_region_held_drew (S := fun w' => w'.cell? ⟨wr.heap.size, 1, none⟩ = some (.slice av zs.length cv) /\ w'.cell? ⟨w.heap.size, 1, none⟩ = some (.int .i64 x.n) /\ w'.cell? ⟨w.heap.size, 2, none⟩ = some (.int .i64 x.s)) (by kernel_rfl) ?_ (fun hHeld => ?_)
     . exact ⟨my1, me1, me2⟩
     refine held_t 0 hHeld ?_
     refine held_t 1 hHeld ?_
     refine held_t 2 hHeld ?_
     refine held_t 3 hHeld ?_
     refine held_t 4 hHeld ?_
     refine held_one (i := 5) (by kernel_rfl) rfl (by kernel_rfl) (fun K hK => ?_)
     go_simp
     refine (perStripe_any _ x.n x.s g1 g2).mono ?_
     rintro e w3 ⟨rfl, b3⟩
     have b3' : Below w2.heap.size w2 w3 := (Below.refl w2.heap.size w2).drew.trans b3
     clear b3
     go_wp2_with fail
     clear hHeld
     refine hK.out _ _ ?_ (fun hHeld => ?_)
     . exact ⟨(b3'.cell (p := ⟨wr.heap.size, 1, none⟩) my).trans my1, (b3'.cell (p := ⟨w.heap.size, 1, none⟩) mx).trans me1, (b3'.cell (p := ⟨w.heap.size, 2, none⟩) mx).trans me2⟩
     clear hK K
     refine held_t 6 hHeld ?_
     refine held_t 7 hHeld ?_
     refine held_p 8 hHeld ?_
     refine held_p 9 hHeld ?_
     refine held_none (i := 10) (by kernel_rfl) rfl (by kernel_rfl) hHeld ?_
     simp only [Act.put, List.setIfInBounds_toArray, List.set_cons_zero, List.set_cons_succ]
     refine held_p 11 hHeld ?_
     refine held_t 12 hHeld ?_
     refine wpAnyH_done (by kernel_rfl) ?_ _
     clear hHeld
     have HB := hidden (hA.trans ((B1.trans ((Below.andThen b2' b3').mono B1.size)).mono hA.size))
     have HE := hidden (entsB_no (x := x) HDJ.out (entAt_2 HL.out))
     go_wp2
     go_ret
     exact ⟨ret_bool HE.out.symm, HB.out⟩
   obtain ⟨p, rfl⟩ : ∃ p, j = p + 1 := ⟨j - 1, by omega⟩
   have hpq : ds[p]? = some (ds[p]'(by omega)) := List.getElem?_eq_getElem (by omega)
   generalize ds[p]'(by omega) = q at hpq
   have qc := HQ.out p q hpq
   obtain ⟨s, zq⟩ := q
   simp only at qc
   have HPQ := hidden hpq
   clear hpq
   have j1 : IntKind.i64.wrap (((p + 1 : Nat) : Int) - 1) = (p : Int) := by rw [IntWalk.i64_in _ (by omega)]; omega
   have j2 : IntKind.i64.wrap ((p : Int) + 1 - 1) = (p : Int) := by rw [IntWalk.i64_in _ (by omega)]; omega
   have j3 : IntKind.i64.wrap (p : Int) = (p : Int) := IntWalk.i64_in _ (by omega)
   have j4 : (0 : Int) <= (p : Int) := by omega
   have j5 : (p : Int) < (nd : Int) := by omega
   have j6 : (0 : Int) < ((p + 1 : Nat) : Int) := by omega
   by_cases hlt : s < y
   . have hge : ¬ y <= s := by omega
     by_cases hL : (zs.length : Int) = x.n - 1
     . have hL1 : ((zs.length : Int) == x.n - 1) = true := by simpa using hL
       have hL2 : ((zs.length : Int) != x.n - 1) = false := by simpa using hL
       have HL := hidden hL
       have hsa : secB zs = allW zs := sec_all6 (by omega)
       have HSA := hidden hsa
       clear hL hsa
       cases hZ : secB zs
       . have HZ := hidden (HSA.out.symm.trans hZ)
         go_wp2_with fail
         generalize wr.alloc (.cells #[.int .i64 y, .slice av zs.length cv] 82) = w1 at X1 Y1 RZ B1 y0 y1 e1 e2 e9 zy zx zb HQ qc ⊢
         refine wp_region_held_drew (S := fun w' => w'.cell? ⟨wr.heap.size, 0, none⟩ = some (.int .i64 y) /\ w'.cell? ⟨w.heap.size, 1, none⟩ = some (.int .i64 x.n) /\ w'.cell? ⟨w.heap.size, 2, none⟩ = some (.int .i64 x.s) /\ w'.cell? ⟨w.heap.size, 9, none⟩ = some (.slice (some ⟨b, off, none⟩) nd cd) /\ w'.cell? ⟨b, off + p * 2, none⟩ = some (.int .i64 s)) (by kernel_rfl) ?_ (fun hHeld => ?_)
         . exact ⟨y0, e1, e2, e9, qc⟩
         refine held_t 0 hHeld ?_
         refine held_t 1 hHeld ?_
         refine held_t 2 hHeld ?_
         refine held_t 3 hHeld ?_
         refine held_one (i := 4) (by kernel_rfl) rfl (by kernel_rfl) (fun K hK => ?_)
         go_simp
         refine (hasStripe_any _ x.n x.s y).mono ?_
         rintro e w2 ⟨rfl, b2⟩
         have b2' : Below w1.heap.size w1 w2 := (Below.refl w1.heap.size w1).drew.trans b2
         clear b2
         rw [hI]
         go_wp2_with fail
         clear hHeld
         refine hK.out _ _ ?_ (fun hHeld => ?_)
         . exact ⟨(b2'.cell (p := ⟨wr.heap.size, 0, none⟩) zy).trans y0, (b2'.cell (p := ⟨w.heap.size, 1, none⟩) zx).trans e1, (b2'.cell (p := ⟨w.heap.size, 2, none⟩) zx).trans e2, (b2'.cell (p := ⟨w.heap.size, 9, none⟩) zx).trans e9, (b2'.cell (p := ⟨b, off + p * 2, none⟩) zb).trans qc⟩
         clear hK K
         refine held_t 5 hHeld ?_
         refine held_t 6 hHeld ?_
         refine held_t 7 hHeld ?_
         refine held_t 8 hHeld ?_
         refine held_t 9 hHeld ?_
         refine held_t 10 hHeld ?_
         refine held_t 11 hHeld ?_
         refine held_t 12 hHeld ?_
         refine held_t 13 hHeld ?_
         refine held_t 14 hHeld ?_
         refine held_t 15 hHeld ?_
         refine held_t 16 hHeld ?_
         refine held_t 17 hHeld ?_
         refine held_t 18 hHeld ?_
         refine held_t 19 hHeld ?_
         refine held_t 20 hHeld ?_
         refine held_t 21 hHeld ?_
         refine wpAnyH_done (by kernel_rfl) ?_ _
         clear hHeld
         have my1 := (b2'.cell (p := ⟨wr.heap.size, 1, none⟩) zy).trans y1
         have me1 := (b2'.cell (p := ⟨w.heap.size, 1, none⟩) zx).trans e1
         have me2 := (b2'.cell (p := ⟨w.heap.size, 2, none⟩) zx).trans e2
         have my := Nat.lt_of_lt_of_le zy b2'.size
         have mx := Nat.lt_of_lt_of_le zx b2'.size
         have RZ2 := RZ.below b2'
         go_wp2_with fail
         refine wp_region_held_drew (S := fun w' => w'.cell? ⟨wr.heap.size, 1, none⟩ = some (.slice av zs.length cv) /\ w'.cell? ⟨w.heap.size, 1, none⟩ = some (.int .i64 x.n) /\ w'.cell? ⟨w.heap.size, 2, none⟩ = some (.int .i64 x.s)) (by kernel_rfl) ?_ (fun hHeld => ?_)
         . exact ⟨my1, me1, me2⟩
         refine held_t 0 hHeld ?_
         refine held_t 1 hHeld ?_
         refine held_t 2 hHeld ?_
         refine held_t 3 hHeld ?_
         refine held_t 4 hHeld ?_
         refine held_one (i := 5) (by kernel_rfl) rfl (by kernel_rfl) (fun K hK => ?_)
         go_simp
         refine (perStripe_any _ x.n x.s g1 g2).mono ?_
         rintro e w3 ⟨rfl, b3⟩
         have b3' : Below w2.heap.size w2 w3 := (Below.refl w2.heap.size w2).drew.trans b3
         clear b3
         go_wp2_with fail
         clear hHeld
         refine hK.out _ _ ?_ (fun hHeld => ?_)
         . exact ⟨(b3'.cell (p := ⟨wr.heap.size, 1, none⟩) my).trans my1, (b3'.cell (p := ⟨w.heap.size, 1, none⟩) mx).trans me1, (b3'.cell (p := ⟨w.heap.size, 2, none⟩) mx).trans me2⟩
         clear hK K
         refine held_t 6 hHeld ?_
         refine held_t 7 hHeld ?_
         refine held_t 8 hHeld ?_
         refine held_t 9 hHeld ?_
         refine held_one (i := 10) (by kernel_rfl) rfl (by kernel_rfl) (fun K hK => ?_)
         go_simp
         refine (implSecOk_any _ _ _ _ zs rfl (ints_rd (RZ2.below b3')).1 hwz).mono ?_
         rintro e w4 ⟨rfl, s4⟩
         have b4' : Below w2.heap.size w2 w4 := Below.andThen b3' (s4.below _)
         clear s4
         rw [hZ]
         go_wp2_with fail
         clear hHeld
         refine hK.out _ _ ?_ (fun hHeld => ?_)
         . exact ⟨(b4'.cell (p := ⟨wr.heap.size, 1, none⟩) my).trans my1, (b4'.cell (p := ⟨w.heap.size, 1, none⟩) mx).trans me1, (b4'.cell (p := ⟨w.heap.size, 2, none⟩) mx).trans me2⟩
         clear hK K
         refine held_t 11 hHeld ?_
         refine held_t 12 hHeld ?_
         refine wpAnyH_done (by kernel_rfl) ?_ _
         clear hHeld
         have HB := hidden (hA.trans ((B1.trans ((Below.andThen b2' b4').mono B1.size)).mono hA.size))
         have HE := hidden (entsB_no (x := x) HDJ.out (entAt_3 HZ.out))
         go_wp2
         go_ret
         exact ⟨ret_bool HE.out.symm, HB.out⟩
       have HZ := hidden (HSA.out.symm.trans hZ)
       go_wp2_with fail
       generalize wr.alloc (.cells #[.int .i64 y, .slice av zs.length cv] 82) = w1 at X1 Y1 RZ B1 y0 y1 e1 e2 e9 zy zx zb HQ qc ⊢
       refine wp_region_held_drew (S := fun w' => w'.cell? ⟨wr.heap.size, 0, none⟩ = some (.int .i64 y) /\ w'.cell? ⟨w.heap.size, 1, none⟩ = some (.int .i64 x.n) /\ w'.cell? ⟨w.heap.size, 2, none⟩ = some (.int .i64 x.s) /\ w'.cell? ⟨w.heap.size, 9, none⟩ = some (.slice (some ⟨b, off, none⟩) nd cd) /\ w'.cell? ⟨b, off + p * 2, none⟩ = some (.int .i64 s)) (by kernel_rfl) ?_ (fun hHeld => ?_)
       . exact ⟨y0, e1, e2, e9, qc⟩
       refine held_t 0 hHeld ?_
       refine held_t 1 hHeld ?_
       refine held_t 2 hHeld ?_
       refine held_t 3 hHeld ?_
       refine held_one (i := 4) (by kernel_rfl) rfl (by kernel_rfl) (fun K hK => ?_)
       go_simp
       refine (hasStripe_any _ x.n x.s y).mono ?_
       rintro e w2 ⟨rfl, b2⟩
       have b2' : Below w1.heap.size w1 w2 := (Below.refl w1.heap.size w1).drew.trans b2
       clear b2
       rw [hI]
       go_wp2_with fail
       clear hHeld
       refine hK.out _ _ ?_ (fun hHeld => ?_)
       . exact ⟨(b2'.cell (p := ⟨wr.heap.size, 0, none⟩) zy).trans y0, (b2'.cell (p := ⟨w.heap.size, 1, none⟩) zx).trans e1, (b2'.cell (p := ⟨w.heap.size, 2, none⟩) zx).trans e2, (b2'.cell (p := ⟨w.heap.size, 9, none⟩) zx).trans e9, (b2'.cell (p := ⟨b, off + p * 2, none⟩) zb).trans qc⟩
       clear hK K
       refine held_t 5 hHeld ?_
       refine held_t 6 hHeld ?_
       refine held_t 7 hHeld ?_
       refine held_t 8 hHeld ?_
       refine held_t 9 hHeld ?_
       refine held_t 10 hHeld ?_
       refine held_t 11 hHeld ?_
       refine held_t 12 hHeld ?_
       refine held_t 13 hHeld ?_
       refine held_t 14 hHeld ?_
       refine held_t 15 hHeld ?_
       refine held_t 16 hHeld ?_
       refine held_t 17 hHeld ?_
       refine held_t 18 hHeld ?_
       refine held_t 19 hHeld ?_
       refine held_t 20 hHeld ?_
       refine held_t 21 hHeld ?_
       refine wpAnyH_done (by kernel_rfl) ?_ _
       clear hHeld
       have my1 := (b2'.cell (p := ⟨wr.heap.size, 1, none⟩) zy).trans y1
       have me1 := (b2'.cell (p := ⟨w.heap.size, 1, none⟩) zx).trans e1
       have me2 := (b2'.cell (p := ⟨w.heap.size, 2, none⟩) zx).trans e2
       have my := Nat.lt_of_lt_of_le zy b2'.size
       have mx := Nat.lt_of_lt_of_le zx b2'.size
       have RZ2 := RZ.below b2'
       go_wp2_with fail
       refine wp_region_held_drew (S := fun w' => w'.cell? ⟨wr.heap.size, 1, none⟩ = some (.slice av zs.length cv) /\ w'.cell? ⟨w.heap.size, 1, none⟩ = some (.int .i64 x.n) /\ w'.cell? ⟨w.heap.size, 2, none⟩ = some (.int .i64 x.s)) (by kernel_rfl) ?_ (fun hHeld => ?_)
       . exact ⟨my1, me1, me2⟩
       refine held_t 0 hHeld ?_
       refine held_t 1 hHeld ?_
       refine held_t 2 hHeld ?_
       refine held_t 3 hHeld ?_
       refine held_t 4 hHeld ?_
       refine held_one (i := 5) (by kernel_rfl) rfl (by kernel_rfl) (fun K hK => ?_)
       go_simp
       refine (perStripe_any _ x.n x.s g1 g2).mono ?_
       rintro e w3 ⟨rfl, b3⟩
       have b3' : Below w2.heap.size w2 w3 := (Below.refl w2.heap.size w2).drew.trans b3
       clear b3
       go_wp2_with fail
       clear hHeld
       refine hK.out _ _ ?_ (fun hHeld => ?_)
       . exact ⟨(b3'.cell (p := ⟨wr.heap.size, 1, none⟩) my).trans my1, (b3'.cell (p := ⟨w.heap.size, 1, none⟩) mx).trans me1, (b3'.cell (p := ⟨w.heap.size, 2, none⟩) mx).trans me2⟩
       clear hK K
       refine held_t 6 hHeld ?_
       refine held_t 7 hHeld ?_
       refine held_t 8 hHeld ?_
       refine held_t 9 hHeld ?_
       refine held_one (i := 10) (by kernel_rfl) rfl (by kernel_rfl) (fun K hK => ?_)
       go_simp
       refine (implSecOk_any _ _ _ _ zs rfl (ints_rd (RZ2.below b3')).1 hwz).mono ?_
       rintro e w4 ⟨rfl, s4⟩
       have b4' : Below w2.heap.size w2 w4 := Below.andThen b3' (s4.below _)
       clear s4
       rw [hZ]
       go_wp2_with fail
       clear hHeld
       refine hK.out _ _ ?_ (fun hHeld => ?_)
       . exact ⟨(b4'.cell (p := ⟨wr.heap.size, 1, none⟩) my).trans my1, (b4'.cell (p := ⟨w.heap.size, 1, none⟩) mx).trans me1, (b4'.cell (p := ⟨w.heap.size, 2, none⟩) mx).trans me2⟩
       clear hK K
       refine held_t 11 hHeld ?_
       refine held_t 12 hHeld ?_
       refine wpAnyH_done (by kernel_rfl) ?_ _
       clear hHeld
       have HB := hidden (B1.trans ((Below.andThen b2' b4').mono B1.size))
       have hat : entAt x ds (p + 1) (y, zs) = true := (entAt_5 HI.out HL.out HZ.out HPQ.out).trans (by simpa using hlt)
       go_wp2
       go_roundw
       case rel => exact ⟨p + 1 + 1, by omega, by go_num, fun q d hq hm' => by
        rcases Nat.lt_or_ge q (p + 1) with h | h
        . exact hall q d h hm'
        obtain rfl : q = p + 1 := by omega
        rw [HDJ.out] at hm'
        cases hm'
        exact hat, HB.out⟩
       case measure => simp [intOf]; omega
     have hL1 : ((zs.length : Int) == x.n - 1) = false := by simpa using hL
     have hL2 : ((zs.length : Int) != x.n - 1) = true := by simpa using hL
     have HL := hidden hL
     clear hL
     go_wp2_with fail
     generalize wr.alloc (.cells #[.int .i64 y, .slice av zs.length cv] 82) = w1 at X1 Y1 RZ B1 y0 y1 e1 e2 e9 zy zx zb HQ qc ⊢
     refine wp_region_held_drew (S := fun w' => w'.cell? ⟨wr.heap.size, 0, none⟩ = some (.int .i64 y) /\ w'.cell? ⟨w.heap.size, 1, none⟩ = some (.int .i64 x.n) /\ w'.cell? ⟨w.heap.size, 2, none⟩ = some (.int .i64 x.s) /\ w'.cell? ⟨w.heap.size, 9, none⟩ = some (.slice (some ⟨b, off, none⟩) nd cd) /\ w'.cell? ⟨b, off + p * 2, none⟩ = some (.int .i64 s)) (by kernel_rfl) ?_ (fun hHeld => ?_)
     . exact ⟨y0, e1, e2, e9, qc⟩
     refine held_t 0 hHeld ?_
     refine held_t 1 hHeld ?_
     refine held_t 2 hHeld ?_
     refine held_t 3 hHeld ?_
     refine held_one (i := 4) (by kernel_rfl) rfl (by kernel_rfl) (fun K hK => ?_)
     go_simp
     refine (hasStripe_any _ x.n x.s y).mono ?_
     rintro e w2 ⟨rfl, b2⟩
     have b2' : Below w1.heap.size w1 w2 := (Below.refl w1.heap.size w1).drew.trans b2
     clear b2
     rw [hI]
     go_wp2_with fail
     clear hHeld
     refine hK.out _ _ ?_ (fun hHeld => ?_)
     . exact ⟨(b2'.cell (p := ⟨wr.heap.size, 0, none⟩) zy).trans y0, (b2'.cell (p := ⟨w.heap.size, 1, none⟩) zx).trans e1, (b2'.cell (p := ⟨w.heap.size, 2, none⟩) zx).trans e2, (b2'.cell (p := ⟨w.heap.size, 9, none⟩) zx).trans e9, (b2'.cell (p := ⟨b, off + p * 2, none⟩) zb).trans qc⟩
     clear hK K
     refine held_t 5 hHeld ?_
     refine held_t 6 hHeld ?_
     refine held_t 7 hHeld ?_
     refine held_t 8 hHeld ?_
     refine held_t 9 hHeld ?_
     refine held_t 10 hHeld ?_
     refine held_t 11 hHeld ?_
     refine held_t 12 hHeld ?_
     refine held_t 13 hHeld ?_
     refine held_t 14 hHeld ?_
     refine held_t 15 hHeld ?_
     refine held_t 16 hHeld ?_
     refine held_t 17 hHeld ?_
     refine held_t 18 hHeld ?_
     refine held_t 19 hHeld ?_
     refine held_t 20 hHeld ?_
     refine held_t 21 hHeld ?_
     refine wpAnyH_done (by kernel_rfl) ?_ _
     clear hHeld
     have my1 := (b2'.cell (p := ⟨wr.heap.size, 1, none⟩) zy).trans y1
     have me1 := (b2'.cell (p := ⟨w.heap.size, 1, none⟩) zx).trans e1
     have me2 := (b2'.cell (p := ⟨w.heap.size, 2, none⟩) zx).trans e2
     have my := Nat.lt_of_lt_of_le zy b2'.size
     have mx := Nat.lt_of_lt_of_le zx b2'.size
     have RZ2 := RZ.below b2'
     go_wp2_with fail
     refine wp_region_held_drew (S := fun w' => w'.cell? ⟨wr.heap.size, 1, none⟩ = some (.slice av zs.length cv) /\ w'.cell? ⟨w.heap.size, 1, none⟩ = some (.int .i64 x.n) /\ w'.cell? ⟨w.heap.size, 2, none⟩ = some (.int .i64 x.s)) (by kernel_rfl) ?_ (fun hHeld => ?_)
     . exact ⟨my1, me1, me2⟩
     refine held_t 0 hHeld ?_
     refine held_t 1 hHeld ?_
     refine held_t 2 hHeld ?_
     refine held_t 3 hHeld ?_
     refine held_t 4 hHeld ?_
     refine held_one (i := 5) (by kernel_rfl) rfl (by kernel_rfl) (fun K hK => ?_)
     go_simp
     refine (perStripe_any _ x.n x.s g1 g2).mono ?_
     rintro e w3 ⟨rfl, b3⟩
     have b3' : Below w2.heap.size w2 w3 := (Below.refl w2.heap.size w2).drew.trans b3
     clear b3
     go_wp2_with fail
     clear hHeld
     refine hK.out _ _ ?_ (fun hHeld => ?_)
     . exact ⟨(b3'.cell (p := ⟨wr.heap.size, 1, none⟩) my).trans my1, (b3'.cell (p := ⟨w.heap.size, 1, none⟩) mx).trans me1, (b3'.cell (p := ⟨w.heap.size, 2, none⟩) mx).trans me2⟩
     clear hK K
     refine held_t 6 hHeld ?_
     refine held_t 7 hHeld ?_
     refine held_p 8 hHeld ?_
     refine held_p 9 hHeld ?_
     refine held_none (i := 10) (by kernel_rfl) rfl (by kernel_rfl) hHeld ?_
     simp only [Act.put, List.setIfInBounds_toArray, List.set_cons_zero, List.set_cons_succ]
     refine held_p 11 hHeld ?_
     refine held_t 12 hHeld ?_
     refine wpAnyH_done (by kernel_rfl) ?_ _
     clear hHeld
     have HB := hidden (hA.trans ((B1.trans ((Below.andThen b2' b3').mono B1.size)).mono hA.size))
     have HE := hidden (entsB_no (x := x) HDJ.out (entAt_2 HL.out))
     go_wp2
     go_ret
     exact ⟨ret_bool HE.out.symm, HB.out⟩
   have hge : y <= s := by omega
   go_wp2_with fail
   generalize wr.alloc (.cells #[.int .i64 y, .slice av zs.length cv] 82) = w1 at X1 Y1 RZ B1 y0 y1 e1 e2 e9 zy zx zb HQ qc ⊢
   refine wp_region_held_drew (S := fun w' => w'.cell? ⟨wr.heap.size, 0, none⟩ = some (.int .i64 y) /\ w'.cell? ⟨w.heap.size, 1, none⟩ = some (.int .i64 x.n) /\ w'.cell? ⟨w.heap.size, 2, none⟩ = some (.int .i64 x.s) /\ w'.cell? ⟨w.heap.size, 9, none⟩ = some (.slice (some ⟨b, off, none⟩) nd cd) /\ w'.cell? ⟨b, off + p * 2, none⟩ = some (.int .i64 s)) (by kernel_rfl) ?_ (fun hHeld => ?_)
   . exact ⟨y0, e1, e2, e9, qc⟩
   refine held_t 0 hHeld ?_
   refine held_t 1 hHeld ?_
   refine held_t 2 hHeld ?_
   refine held_t 3 hHeld ?_
   refine held_one (i := 4) (by kernel_rfl) rfl (by kernel_rfl) (fun K hK => ?_)
   go_simp
   refine (hasStripe_any _ x.n x.s y).mono ?_
   rintro e w2 ⟨rfl, b2⟩
   have b2' : Below w1.heap.size w1 w2 := (Below.refl w1.heap.size w1).drew.trans b2
   clear b2
   rw [hI]
   go_wp2_with fail
   clear hHeld
   refine hK.out _ _ ?_ (fun hHeld => ?_)
   . exact ⟨(b2'.cell (p := ⟨wr.heap.size, 0, none⟩) zy).trans y0, (b2'.cell (p := ⟨w.heap.size, 1, none⟩) zx).trans e1, (b2'.cell (p := ⟨w.heap.size, 2, none⟩) zx).trans e2, (b2'.cell (p := ⟨w.heap.size, 9, none⟩) zx).trans e9, (b2'.cell (p := ⟨b, off + p * 2, none⟩) zb).trans qc⟩
   clear hK K
   refine held_t 5 hHeld ?_
   refine held_t 6 hHeld ?_
   refine held_t 7 hHeld ?_
   refine held_t 8 hHeld ?_
   refine held_t 9 hHeld ?_
   refine held_t 10 hHeld ?_
   refine held_t 11 hHeld ?_
   refine held_t 12 hHeld ?_
   refine held_t 13 hHeld ?_
   refine held_t 14 hHeld ?_
   refine held_t 15 hHeld ?_
   refine held_t 16 hHeld ?_
   refine held_t 17 hHeld ?_
   refine held_t 18 hHeld ?_
   refine held_t 19 hHeld ?_
   refine held_t 20 hHeld ?_
   refine held_t 21 hHeld ?_
   refine wpAnyH_done (by kernel_rfl) ?_ _
   clear hHeld
   have HB := hidden (hA.trans ((B1.trans (b2'.mono B1.size)).mono hA.size))
   have HE := hidden (entsB_no (x := x) HDJ.out (entAt_6 HPQ.out hge))
   go_wp2
   go_ret
   exact ⟨ret_bool HE.out.symm, HB.out⟩
 have ej : j = nd := by omega
 subst ej
 have hAll : entsB x ds = true := allIx_iff.2 (fun q d hq => hall q d (by have := (List.getElem?_eq_some_iff.1 hq).1; omega) hq)
 have HB := hidden (hA.trans (hb.mono hA.size))
 go_wp2
 go_ret
 exact ⟨ret_bool hAll.symm, HB.out⟩

theorem recsOk_any (w : World) (x : ArrN) (am ad : Option Addr) (nm cm nd cd : Nat) :
 Calls Tryz.prog 73 #[.agg #[.int .i64 x.id, .int .i64 x.n, .int .i64 x.s, .slice am nm cm, .int .i64 x.lost, .int .i64 x.built, .int .i64 x.seq, .int .i64 x.tail, .int .i64 x.gen, .slice ad nd cd, .int .i64 x.fuse, .bool x.down, .bool x.broken]] w fun e w' => e = .returned (.bool (recB6 x)) /\ Below w.heap.size w w' := by
 have hA := new_below w (.cells #[.int .i64 x.id, .int .i64 x.n, .int .i64 x.s, .slice am nm cm, .int .i64 x.lost, .int .i64 x.built, .int .i64 x.seq, .int .i64 x.tail, .int .i64 x.gen, .slice ad nd cd, .int .i64 x.fuse, .bool x.down, .bool x.broken] 33)
 have X := Box.new w 33 #[.int .i64 x.id, .int .i64 x.n, .int .i64 x.s, .slice am nm cm, .int .i64 x.lost, .int .i64 x.built, .int .i64 x.seq, .int .i64 x.tail, .int .i64 x.gen, .slice ad nd cd, .int .i64 x.fuse, .bool x.down, .bool x.broken]
 obtain ⟨k0, k1, k2, k3, k4, k5, k6, k7, k8, k9, k10, k11, k12⟩ := X.cells13
 clear k0 k1 k2 k3 k4 k5 k8 k9 k10 k11 k12 X
 go_enter Tryz.func73, Tryz.ntmps73
 go_wp2_with fail
 refine (within_any _ _ _ _).mono ?_
 rintro e wq ⟨rfl, hq⟩
 obtain rfl := hq.symm
 cases hs : inB x.seq 0 60000
 . have HF : Hid (recB6 x = false) := by unfold Hid recB6; rw [hs]; rfl
   go_wp2
   go_ret
   exact ⟨ret_bool HF.out.symm, hA⟩
 go_wp2_with fail
 refine (within_any _ _ _ _).mono ?_
 rintro e wq ⟨rfl, hq⟩
 obtain rfl := hq.symm
 cases ht : inB x.tail 0 60000
 . have HF : Hid (recB6 x = false) := by unfold Hid recB6; rw [hs, ht]; rfl
   go_wp2
   go_ret
   exact ⟨ret_bool HF.out.symm, hA⟩
 have HF : Hid (recB6 x = inB (x.seq - x.tail) 0 4) := by unfold Hid recB6; rw [hs, ht]; rfl
 obtain ⟨s1, s2⟩ := inB_iff.1 hs
 obtain ⟨t1, t2⟩ := inB_iff.1 ht
 have hw : IntKind.i64.wrap (x.seq - x.tail) = x.seq - x.tail := IntWalk.i64_in _ (by omega)
 go_wp2_with fail
 refine (within_any _ _ _ _).mono ?_
 rintro e wq ⟨rfl, hq⟩
 obtain rfl := hq.symm
 cases hd : inB (x.seq - x.tail) 0 4
 . go_wp2
   go_ret
   exact ⟨ret_bool (by rw [HF.out, hd]), hA⟩
 go_wp2
 go_ret
 exact ⟨ret_bool (by rw [HF.out, hd]), hA⟩

theorem implArrOk_any (w : World) (E F G : TypeId) (x : ArrN) (am ad : Option Addr) (nm cm nd cd : Nat) (ms : List MemD) (ds : List (Int × List Int)) (h0 : (tMemS E F).Rd w [.slice am nm cm] ms) (h1 : (tWrS G).Rd w [.slice ad nd cd] ds) (hw : wtArr ms ds <= 2097152) :
 Calls Tryz.prog 33 #[.agg #[.int .i64 x.id, .int .i64 x.n, .int .i64 x.s, .slice am nm cm, .int .i64 x.lost, .int .i64 x.built, .int .i64 x.seq, .int .i64 x.tail, .int .i64 x.gen, .slice ad nd cd, .int .i64 x.fuse, .bool x.down, .bool x.broken]] w fun e w' => e = .returned (.bool (arrB x ms ds)) /\ Below w.heap.size w w' := by
 have hwm : wtMemS ms <= 2097152 := by unfold wtArr at hw; omega
 have hwd : wtWrS ds <= 2097152 := by unfold wtArr at hw; omega
 have hA := new_below w (.cells #[.int .i64 x.id, .int .i64 x.n, .int .i64 x.s, .slice am nm cm, .int .i64 x.lost, .int .i64 x.built, .int .i64 x.seq, .int .i64 x.tail, .int .i64 x.gen, .slice ad nd cd, .int .i64 x.fuse, .bool x.down, .bool x.broken] 33)
 have X := Box.new w 33 #[.int .i64 x.id, .int .i64 x.n, .int .i64 x.s, .slice am nm cm, .int .i64 x.lost, .int .i64 x.built, .int .i64 x.seq, .int .i64 x.tail, .int .i64 x.gen, .slice ad nd cd, .int .i64 x.fuse, .bool x.down, .bool x.broken]
 obtain ⟨k0, k1, k2, k3, k4, k5, k6, k7, k8, k9, k10, k11, k12⟩ := X.cells13
 have zA := X.lt
 have r0 := h0.below hA
 have r1 := h1.below hA
 go_enter Tryz.func33, Tryz.ntmps33
 go_wp2_with fail
 generalize w.alloc (.cells #[.int .i64 x.id, .int .i64 x.n, .int .i64 x.s, .slice am nm cm, .int .i64 x.lost, .int .i64 x.built, .int .i64 x.seq, .int .i64 x.tail, .int .i64 x.gen, .slice ad nd cd, .int .i64 x.fuse, .bool x.down, .bool x.broken] 33) = W at hA X zA r0 r1 k0 k1 k2 k3 k4 k5 k6 k7 k8 k9 k10 k11 k12 ⊢
 refine (implGeoOk_any _ _ _).mono ?_
 rintro e w1 ⟨rfl, b1⟩
 have X1 := X.below b1 X.lt
 have B1 := Below.andThen hA b1
 have q1 := r0.below b1
 have t1 := r1.below b1
 clear k0 k1 k2 k3 k4 k5 k6 k7 k8 k9 k10 k11 k12 b1 X hA r0 r1
 obtain ⟨k0, k1, k2, k3, k4, k5, k6, k7, k8, k9, k10, k11, k12⟩ := X1.cells13
 cases hg : geoB x.n x.s
 . have HF : Hid (arrB x ms ds = false) := by
    unfold Hid
    unfold arrB; rw [hg]; rfl
   go_wp2
   go_ret
   exact ⟨ret_bool HF.out.symm, B1⟩
 have HE := hidden (arr_same6 (ms := ms) (ds := ds) hg)
 obtain ⟨g1, g2, g3, g4⟩ := geoB_iff.1 hg
 go_wp2_with fail
 refine (within_any _ _ _ _).mono ?_
 rintro e wq ⟨rfl, hq⟩
 obtain rfl := hq.symm
 cases hid : inB x.id 1 60000
 . have HF : Hid (arrB x ms ds = false) := by
    unfold Hid
    rw [HE.out, hid]; rfl
   go_wp2
   go_ret
   exact ⟨ret_bool HF.out.symm, B1⟩
 go_wp2_with fail
 refine (lostOk_any _ x.n x.s x.lost x.built ⟨g1, g2⟩).mono ?_
 rintro e w2 ⟨rfl, b2⟩
 have X2 := X1.below b2 X1.lt
 have B2 := Below.andThen B1 b2
 have q2 := q1.below b2
 have t2 := t1.below b2
 clear k0 k1 k2 k3 k4 k5 k6 k7 k8 k9 k10 k11 k12 b2 X1 B1 q1 t1
 obtain ⟨k0, k1, k2, k3, k4, k5, k6, k7, k8, k9, k10, k11, k12⟩ := X2.cells13
 cases hlo : lostB x.n x.s x.lost x.built
 . have HF : Hid (arrB x ms ds = false) := by
    unfold Hid
    rw [HE.out, hid, hlo]; rfl
   go_wp2
   go_ret
   exact ⟨ret_bool HF.out.symm, B2⟩
 skip
 go_wp2_with fail
 refine (within_any _ _ _ _).mono ?_
 rintro e wq ⟨rfl, hq⟩
 obtain rfl := hq.symm
 cases hge : inB x.gen 0 60000
 . have HF : Hid (arrB x ms ds = false) := by
    unfold Hid
    rw [HE.out, hid, hlo, hge]; rfl
   go_wp2
   go_ret
   exact ⟨ret_bool HF.out.symm, B2⟩
 skip
 go_wp2_with fail
 refine (within_any _ _ _ _).mono ?_
 rintro e wq ⟨rfl, hq⟩
 obtain rfl := hq.symm
 cases hfu : inB x.fuse (-1) 1000
 . have HF : Hid (arrB x ms ds = false) := by
    unfold Hid
    rw [HE.out, hid, hlo, hge, hfu]; rfl
   go_wp2
   go_ret
   exact ⟨ret_bool HF.out.symm, B2⟩
 go_wp2_with fail
 refine (memsOk_any _ E F x _ _ _ _ _ _ ms q2 hwm hg).mono ?_
 rintro e w3 ⟨rfl, b3⟩
 have X3 := X2.below b3 X2.lt
 have B3 := Below.andThen B2 b3
 have q3 := q2.below b3
 have t3 := t2.below b3
 clear k0 k1 k2 k3 k4 k5 k6 k7 k8 k9 k10 k11 k12 b3 X2 B2 q2 t2
 obtain ⟨k0, k1, k2, k3, k4, k5, k6, k7, k8, k9, k10, k11, k12⟩ := X3.cells13
 cases hms : memsB x ms
 . have HF : Hid (arrB x ms ds = false) := by
    unfold Hid
    rw [HE.out, hid, hlo, hge, hfu, hms]; rfl
   go_wp2
   go_ret
   exact ⟨ret_bool HF.out.symm, B3⟩
 go_wp2_with fail
 refine (recsOk_any _ x _ _ _ _ _ _).mono ?_
 rintro e w4 ⟨rfl, b4⟩
 have X4 := X3.below b4 X3.lt
 have B4 := Below.andThen B3 b4
 have q4 := q3.below b4
 have t4 := t3.below b4
 clear k0 k1 k2 k3 k4 k5 k6 k7 k8 k9 k10 k11 k12 b4 X3 B3 q3 t3
 obtain ⟨k0, k1, k2, k3, k4, k5, k6, k7, k8, k9, k10, k11, k12⟩ := X4.cells13
 cases hre : recB6 x
 . have HF : Hid (arrB x ms ds = false) := by
    unfold Hid
    rw [HE.out, hid, hlo, hge, hfu, hms, hre]; rfl
   go_wp2
   go_ret
   exact ⟨ret_bool HF.out.symm, B4⟩
 have HF : Hid (arrB x ms ds = entsB x ds) := by
  unfold Hid
  rw [HE.out, hid, hlo, hge, hfu, hms, hre]; rfl
 go_wp2_with fail
 refine (dirtyOk_any _ G x _ _ _ _ _ _ ds t4 hwd hg).mono ?_
 rintro e w5 ⟨rfl, b5⟩
 have X5 := X4.below b5 X4.lt
 have B5 := Below.andThen B4 b5
 have q5 := q4.below b5
 have t5 := t4.below b5
 clear k0 k1 k2 k3 k4 k5 k6 k7 k8 k9 k10 k11 k12 b5 X4 B4 q4 t4
 obtain ⟨k0, k1, k2, k3, k4, k5, k6, k7, k8, k9, k10, k11, k12⟩ := X5.cells13
 cases hds : entsB x ds
 . go_wp2
   go_ret
   exact ⟨ret_bool (by rw [HF.out, hds]), B5⟩
 go_wp2
 go_ret
 exact ⟨ret_bool (by rw [HF.out, hds]), B5⟩

theorem l8May_any (w : World) (E F G : TypeId) (x : ArrN) (am ad : Option Addr) (nm cm nd cd : Nat) (ms : List MemD) (ds : List (Int × List Int)) (h0 : (tMemS E F).Rd w [.slice am nm cm] ms) (h1 : (tWrS G).Rd w [.slice ad nd cd] ds) (hw : wtArr ms ds <= 2097152) :
 Calls Tryz.prog 45 #[.agg #[.int .i64 x.id, .int .i64 x.n, .int .i64 x.s, .slice am nm cm, .int .i64 x.lost, .int .i64 x.built, .int .i64 x.seq, .int .i64 x.tail, .int .i64 x.gen, .slice ad nd cd, .int .i64 x.fuse, .bool x.down, .bool x.broken]] w fun e w' => e = .returned (.int .i64 (ask8 x ms ds)) /\ Below w.heap.size w w' := by
 have hA := new_below w (.cells #[.int .i64 x.id, .int .i64 x.n, .int .i64 x.s, .slice am nm cm, .int .i64 x.lost, .int .i64 x.built, .int .i64 x.seq, .int .i64 x.tail, .int .i64 x.gen, .slice ad nd cd, .int .i64 x.fuse, .bool x.down, .bool x.broken] 33)
 have X := Box.new w 33 #[.int .i64 x.id, .int .i64 x.n, .int .i64 x.s, .slice am nm cm, .int .i64 x.lost, .int .i64 x.built, .int .i64 x.seq, .int .i64 x.tail, .int .i64 x.gen, .slice ad nd cd, .int .i64 x.fuse, .bool x.down, .bool x.broken]
 have zX := X.lt
 obtain ⟨k0, k1, k2, k3, k4, k5, k6, k7, k8, k9, k10, k11, k12⟩ := X.cells13
 have r0 := h0.below hA
 have r1 := h1.below hA
 have HV : Hid (ask8 x ms ds = if arrB x ms ds = true then (if x.down = true then 6 else 0) else 1) := rfl
 go_enter Tryz.func45, Tryz.ntmps45
 go_wp2_with fail
 generalize w.alloc (.cells #[.int .i64 x.id, .int .i64 x.n, .int .i64 x.s, .slice am nm cm, .int .i64 x.lost, .int .i64 x.built, .int .i64 x.seq, .int .i64 x.tail, .int .i64 x.gen, .slice ad nd cd, .int .i64 x.fuse, .bool x.down, .bool x.broken] 33) = W at hA X zX r0 r1 k0 k1 k2 k3 k4 k5 k6 k7 k8 k9 k10 k11 k12 ⊢
 refine (specArrOk_any _ E F G x _ _ _ _ _ _ ms ds r0 r1 hw).mono ?_
 rintro e w1 ⟨rfl, b1⟩
 have X1 := X.below b1 zX
 have HB := hidden (Below.andThen hA b1)
 clear k0 k1 k2 k3 k4 k5 k6 k7 k8 k9 k10 k11 k12 X r0 r1 b1 hA
 obtain ⟨k0, k1, k2, k3, k4, k5, k6, k7, k8, k9, k10, k11, k12⟩ := X1.cells13
 clear X1
 cases ha : arrB x ms ds
 . have HR : Hid (1 = ask8 x ms ds) := by unfold Hid; rw [HV.out, if_neg (by simp [ha])]
   clear ha
   go_wp2
   go_ret
   exact ⟨ret_int HR.out, HB.out⟩
 cases hd : x.down
 . have HR : Hid (0 = ask8 x ms ds) := by unfold Hid; rw [HV.out, if_pos ha, if_neg (by simp [hd])]
   rw [hd] at k11
   clear ha hd
   go_wp2
   go_ret
   exact ⟨ret_int HR.out, HB.out⟩
 have HR : Hid (6 = ask8 x ms ds) := by unfold Hid; rw [HV.out, if_pos ha, if_pos hd]
 rw [hd] at k11
 clear ha hd
 go_wp2
 go_ret
 exact ⟨ret_int HR.out, HB.out⟩

theorem askCode_any (w : World) (E F G : TypeId) (x : ArrN) (am ad : Option Addr) (nm cm nd cd : Nat) (ms : List MemD) (ds : List (Int × List Int)) (h0 : (tMemS E F).Rd w [.slice am nm cm] ms) (h1 : (tWrS G).Rd w [.slice ad nd cd] ds) (hw : wtArr ms ds <= 2097152) :
 Calls Tryz.prog 122 #[.agg #[.int .i64 x.id, .int .i64 x.n, .int .i64 x.s, .slice am nm cm, .int .i64 x.lost, .int .i64 x.built, .int .i64 x.seq, .int .i64 x.tail, .int .i64 x.gen, .slice ad nd cd, .int .i64 x.fuse, .bool x.down, .bool x.broken]] w fun e w' => e = .returned (.int .i64 (ask8 x ms ds)) /\ Below w.heap.size w w' := by
 have hA := new_below w (.cells #[.int .i64 x.id, .int .i64 x.n, .int .i64 x.s, .slice am nm cm, .int .i64 x.lost, .int .i64 x.built, .int .i64 x.seq, .int .i64 x.tail, .int .i64 x.gen, .slice ad nd cd, .int .i64 x.fuse, .bool x.down, .bool x.broken] 33)
 have X := Box.new w 33 #[.int .i64 x.id, .int .i64 x.n, .int .i64 x.s, .slice am nm cm, .int .i64 x.lost, .int .i64 x.built, .int .i64 x.seq, .int .i64 x.tail, .int .i64 x.gen, .slice ad nd cd, .int .i64 x.fuse, .bool x.down, .bool x.broken]
 have zX := X.lt
 obtain ⟨k0, k1, k2, k3, k4, k5, k6, k7, k8, k9, k10, k11, k12⟩ := X.cells13
 have r0 := h0.below hA
 have r1 := h1.below hA
 have HV : Hid (ask8 x ms ds = if arrB x ms ds = true then (if x.down = true then 6 else 0) else 1) := rfl
 go_enter Tryz.func122, Tryz.ntmps122
 go_wp2_with fail
 generalize w.alloc (.cells #[.int .i64 x.id, .int .i64 x.n, .int .i64 x.s, .slice am nm cm, .int .i64 x.lost, .int .i64 x.built, .int .i64 x.seq, .int .i64 x.tail, .int .i64 x.gen, .slice ad nd cd, .int .i64 x.fuse, .bool x.down, .bool x.broken] 33) = W at hA X zX r0 r1 k0 k1 k2 k3 k4 k5 k6 k7 k8 k9 k10 k11 k12 ⊢
 refine (implArrOk_any _ E F G x _ _ _ _ _ _ ms ds r0 r1 hw).mono ?_
 rintro e w1 ⟨rfl, b1⟩
 have X1 := X.below b1 zX
 have HB := hidden (Below.andThen hA b1)
 clear k0 k1 k2 k3 k4 k5 k6 k7 k8 k9 k10 k11 k12 X r0 r1 b1 hA
 obtain ⟨k0, k1, k2, k3, k4, k5, k6, k7, k8, k9, k10, k11, k12⟩ := X1.cells13
 clear X1
 cases ha : arrB x ms ds
 . have HR : Hid (1 = ask8 x ms ds) := by unfold Hid; rw [HV.out, if_neg (by simp [ha])]
   clear ha
   go_wp2
   go_ret
   exact ⟨ret_int HR.out, HB.out⟩
 cases hd : x.down
 . have HR : Hid (0 = ask8 x ms ds) := by unfold Hid; rw [HV.out, if_pos ha, if_neg (by simp [hd])]
   rw [hd] at k11
   clear ha hd
   go_wp2
   go_ret
   exact ⟨ret_int HR.out, HB.out⟩
 have HR : Hid (6 = ask8 x ms ds) := by unfold Hid; rw [HV.out, if_pos ha, if_pos hd]
 rw [hd] at k11
 clear ha hd
 go_wp2
 go_ret
 exact ⟨ret_int HR.out, HB.out⟩

theorem lostThere_any (w : World) (E F : TypeId) (x : ArrN) (am ad : Option Addr) (nm cm nd cd : Nat) (ms : List MemD) (h0 : (tMemS E F).Rd w [.slice am nm cm] ms) (hlo : -1 <= x.lost /\ x.lost < (ms.length : Int)) :
 Calls Tryz.prog 130 #[.agg #[.int .i64 x.id, .int .i64 x.n, .int .i64 x.s, .slice am nm cm, .int .i64 x.lost, .int .i64 x.built, .int .i64 x.seq, .int .i64 x.tail, .int .i64 x.gen, .slice ad nd cd, .int .i64 x.fuse, .bool x.down, .bool x.broken]] w fun e w' => e = .returned (.bool (lostT x ms)) /\ Below w.heap.size w w' := by
 obtain ⟨rfl, _⟩ := row_length h0
 have hA := new_below w (.cells #[.int .i64 x.id, .int .i64 x.n, .int .i64 x.s, .slice am ms.length cm, .int .i64 x.lost, .int .i64 x.built, .int .i64 x.seq, .int .i64 x.tail, .int .i64 x.gen, .slice ad nd cd, .int .i64 x.fuse, .bool x.down, .bool x.broken] 33)
 have r0 := h0.below hA
 by_cases l1 : x.lost = -1
 . have e1 : (x.lost != -1) = false := by simp [l1]
   have HV := hidden (lost_none (ms := ms) l1).2
   clear l1
   go_enter Tryz.func130, Tryz.ntmps130
   go_wp2
   go_ret
   exact ⟨ret_bool (by rw [HV.out]), hA⟩
 have e1 : (x.lost != -1) = true := by simp [l1]
 have i1 : 0 <= x.lost := by omega
 have i3 := hlo.2
 have hj : x.lost.toNat < ms.length := by omega
 obtain ⟨d, hdj⟩ : ∃ d, ms[x.lost.toNat]? = some d := ⟨_, List.getElem?_eq_getElem hj⟩
 have HV := hidden (lost_at l1 hdj).2
 rcases quads_at rfl r0 with h0' | ⟨b, off, rfl, hbl, hcs⟩
 . omega
 obtain ⟨v0, v1, v2, v3, q0, q1, q2, q3', hrv⟩ := hcs _ d hdj
 obtain ⟨a0, c0, a1, c1, a3, c3, ss, cs, f, bs, hde, rfl, rfl, rfl, rfl, p0, p1, p3⟩ := mem_at hrv
 have hf2 : d.2.2.1 = f := by rw [hde]
 rw [hf2] at HV
 clear p0 p1 p3 hcs hrv q0 q1 q3' hde hf2 hdj l1 hlo
 go_enter Tryz.func130, Tryz.ntmps130
 go_wp2
 go_ret
 exact ⟨ret_bool (by rw [HV.out]), hA⟩

theorem markCode_any (w : World) (x : ArrN) (am ad : Option Addr) (nm cm nd cd : Nat) :
 Calls Tryz.prog 124 #[.agg #[.int .i64 x.id, .int .i64 x.n, .int .i64 x.s, .slice am nm cm, .int .i64 x.lost, .int .i64 x.built, .int .i64 x.seq, .int .i64 x.tail, .int .i64 x.gen, .slice ad nd cd, .int .i64 x.fuse, .bool x.down, .bool x.broken]] w fun e w' => e = .returned (.int .i64 (mkC x)) /\ Below w.heap.size w w' := by
 have hA := new_below w (.cells #[.int .i64 x.id, .int .i64 x.n, .int .i64 x.s, .slice am nm cm, .int .i64 x.lost, .int .i64 x.built, .int .i64 x.seq, .int .i64 x.tail, .int .i64 x.gen, .slice ad nd cd, .int .i64 x.fuse, .bool x.down, .bool x.broken] 33)
 have X := Box.new w 33 #[.int .i64 x.id, .int .i64 x.n, .int .i64 x.s, .slice am nm cm, .int .i64 x.lost, .int .i64 x.built, .int .i64 x.seq, .int .i64 x.tail, .int .i64 x.gen, .slice ad nd cd, .int .i64 x.fuse, .bool x.down, .bool x.broken]
 obtain ⟨k0, k1, k2, k3, k4, k5, k6, k7, k8, k9, k10, k11, k12⟩ := X.cells13
 have HV : Hid (mkC x = if x.broken = true then 5 else if 59990 <= x.gen then 7 else 0) := rfl
 go_enter Tryz.func124, Tryz.ntmps124
 go_upto_region 1 with fail
 generalize w.alloc (.cells #[.int .i64 x.id, .int .i64 x.n, .int .i64 x.s, .slice am nm cm, .int .i64 x.lost, .int .i64 x.built, .int .i64 x.seq, .int .i64 x.tail, .int .i64 x.gen, .slice ad nd cd, .int .i64 x.fuse, .bool x.down, .bool x.broken] 33) = W at hA X k0 k1 k2 k3 k4 k5 k6 k7 k8 k9 k10 k11 k12 ⊢
 clear X
 cases hb : x.broken
 . have HR : Hid (mkC x = if 59990 <= x.gen then 7 else 0) := by unfold Hid; rw [HV.out, if_neg (by simp [hb])]
   rw [hb] at k12
   clear hb HV
   by_cases hg : 59990 <= x.gen
   . have HS : Hid (7 = mkC x) := by unfold Hid; rw [HR.out, if_pos hg]
     go_wp2
     go_ret
     exact ⟨ret_int HS.out, hA⟩
   have HS : Hid (0 = mkC x) := by unfold Hid; rw [HR.out, if_neg hg]
   go_wp2
   go_ret
   exact ⟨ret_int HS.out, hA⟩
 have HR : Hid (5 = mkC x) := by unfold Hid; rw [HV.out, if_pos hb]
 rw [hb] at k12
 clear hb HV
 go_wp2
 go_ret
 exact ⟨ret_int HR.out, hA⟩

theorem adoptCode_any (w : World) (E F G : TypeId) (x : ArrN) (am ad : Option Addr) (nm cm nd cd : Nat) (ms : List MemD) (ds : List (Int × List Int)) (h0 : (tMemS E F).Rd w [.slice am nm cm] ms) (h1 : (tWrS G).Rd w [.slice ad nd cd] ds) (hw : wtArr ms ds <= 2097152) :
 Calls Tryz.prog 96 #[.agg #[.int .i64 x.id, .int .i64 x.n, .int .i64 x.s, .slice am nm cm, .int .i64 x.lost, .int .i64 x.built, .int .i64 x.seq, .int .i64 x.tail, .int .i64 x.gen, .slice ad nd cd, .int .i64 x.fuse, .bool x.down, .bool x.broken]] w fun e w' => e = .returned (.int .i64 (adoptK x ms ds)) /\ Below w.heap.size w w' := by
 have hA := new_below w (.cells #[.int .i64 x.id, .int .i64 x.n, .int .i64 x.s, .slice am nm cm, .int .i64 x.lost, .int .i64 x.built, .int .i64 x.seq, .int .i64 x.tail, .int .i64 x.gen, .slice ad nd cd, .int .i64 x.fuse, .bool x.down, .bool x.broken] 33)
 have X := Box.new w 33 #[.int .i64 x.id, .int .i64 x.n, .int .i64 x.s, .slice am nm cm, .int .i64 x.lost, .int .i64 x.built, .int .i64 x.seq, .int .i64 x.tail, .int .i64 x.gen, .slice ad nd cd, .int .i64 x.fuse, .bool x.down, .bool x.broken]
 have zX := X.lt
 obtain ⟨k0, k1, k2, k3, k4, k5, k6, k7, k8, k9, k10, k11, k12⟩ := X.cells13
 have r0 := h0.below hA
 have r1 := h1.below hA
 have HV : Hid (adoptK x ms ds = if ask8 x ms ds = 0 then (if (lostT x ms && decide (x.s <= x.built)) = true then mkC x else 2) else ask8 x ms ds) := rfl
 go_enter Tryz.func96, Tryz.ntmps96
 go_wp2_with fail
 generalize w.alloc (.cells #[.int .i64 x.id, .int .i64 x.n, .int .i64 x.s, .slice am nm cm, .int .i64 x.lost, .int .i64 x.built, .int .i64 x.seq, .int .i64 x.tail, .int .i64 x.gen, .slice ad nd cd, .int .i64 x.fuse, .bool x.down, .bool x.broken] 33) = W at hA X zX r0 r1 k0 k1 k2 k3 k4 k5 k6 k7 k8 k9 k10 k11 k12 ⊢
 refine (askCode_any _ E F G x _ _ _ _ _ _ ms ds r0 r1 hw).mono ?_
 rintro e w1 ⟨rfl, b1⟩
 have X1 := X.below b1 zX
 have B1 := Below.andThen hA b1
 have p0 := r0.below b1
 have p1 := r1.below b1
 clear k0 k1 k2 k3 k4 k5 k6 k7 k8 k9 k10 k11 k12 X r0 r1 b1 hA
 by_cases hc : ask8 x ms ds = 0
 . have ha := (ask_good hc).1
   have HV1 : Hid (adoptK x ms ds = if (lostT x ms && decide (x.s <= x.built)) = true then mkC x else 2) := by unfold Hid; rw [HV.out, if_pos hc]
   rw [hc]
   obtain ⟨k0, k1, k2, k3, k4, k5, k6, k7, k8, k9, k10, k11, k12⟩ := X1.cells13
   clear hc HV
   go_wp2_with fail
   refine (lostThere_any _ E F x _ _ _ _ _ _ ms p0 (by have := arr_lost ha; have := (row_length p0).1; omega)).mono ?_
   rintro e w2 ⟨rfl, b2⟩
   have X2 := X1.below b2 X1.lt
   have B2 := Below.andThen B1 b2
   have q0 := p0.below b2
   have q1 := p1.below b2
   clear k0 k1 k2 k3 k4 k5 k6 k7 k8 k9 k10 k11 k12 X1 b2 B1 p0 p1
   obtain ⟨k0, k1, k2, k3, k4, k5, k6, k7, k8, k9, k10, k11, k12⟩ := X2.cells13
   cases hl : lostT x ms
   . have HR : Hid (2 = adoptK x ms ds) := by unfold Hid; rw [HV1.out, hl]; rfl
     clear hl
     go_wp2
     go_ret
     exact ⟨ret_int HR.out, B2⟩
   by_cases hb : x.built < x.s
   . have HR : Hid (2 = adoptK x ms ds) := by unfold Hid; rw [HV1.out, hl, decide_eq_false (by omega)]; rfl
     clear hl
     go_wp2
     go_ret
     exact ⟨ret_int HR.out, B2⟩
   have HR : Hid (mkC x = adoptK x ms ds) := by unfold Hid; rw [HV1.out, hl, decide_eq_true (by omega)]; rfl
   clear hl
   go_wp2_with fail
   refine (markCode_any _ x _ _ _ _ _ _).mono ?_
   rintro e w3 ⟨rfl, b3⟩
   have B3 := Below.andThen B2 b3
   generalize mkC x = c at HR ⊢
   go_wp2
   go_ret
   exact ⟨ret_int HR.out, B3⟩
 have HR : Hid (ask8 x ms ds = adoptK x ms ds) := by unfold Hid; rw [HV.out, if_neg hc]
 have e0 : (ask8 x ms ds != 0) = true := by simpa using hc
 clear hc
 generalize ask8 x ms ds = q at e0 HR ⊢
 go_wp2
 go_ret
 exact ⟨ret_int HR.out, B1⟩

theorem copyArr_any (w : World) (E F G : TypeId) (x : ArrN) (am ad : Option Addr) (nm cm nd cd : Nat) (ms : List MemD) (ds : List (Int × List Int)) (h0 : (tMemS E F).Rd w [.slice am nm cm] ms) (h1 : (tWrS G).Rd w [.slice ad nd cd] ds) (hw : wtArr ms ds <= 2097152) :
 Calls Tryz.prog 32 #[.agg #[.int .i64 x.id, .int .i64 x.n, .int .i64 x.s, .slice am nm cm, .int .i64 x.lost, .int .i64 x.built, .int .i64 x.seq, .int .i64 x.tail, .int .i64 x.gen, .slice ad nd cd, .int .i64 x.fuse, .bool x.down, .bool x.broken]] w fun e w' => ∃ bm cm' bd cd' m, e = .returned (.agg #[.int .i64 x.id, .int .i64 x.n, .int .i64 x.s, .slice bm nm cm', .int .i64 x.lost, .int .i64 x.built, .int .i64 x.seq, .int .i64 x.tail, .int .i64 x.gen, .slice bd nd cd', .int .i64 x.fuse, .bool x.down, .bool x.broken]) /\ (tMemS 109 51).Own w' w.heap.size m [.slice bm nm cm'] ms /\ (tWrS 82).Own w' m w'.heap.size [.slice bd nd cd'] ds /\ w.heap.size <= m /\ m <= w'.heap.size /\ Below w.heap.size w w' := by
 have hwm : wtMemS ms <= 2097152 := by unfold wtArr at hw; omega
 have hwd : wtWrS ds <= 2097152 := by unfold wtArr at hw; omega
 obtain ⟨hl0, _, hm0⟩ := row_length h0
 obtain ⟨hl1, _, hm1⟩ := row_length h1
 have hn0 : nm <= 2097152 := by unfold wtMemS at hwm; omega
 have hn1 : nd <= 2097152 := by unfold wtWrS at hwd; omega
 obtain ⟨i1, hi1, hy0, hy1, hy2⟩ := info_parts Tryz.infoEnt
 obtain ⟨i4, hi4, hz0, hz1, hz2⟩ := info_parts Tryz.infoMem
 have zz : ∀ u : World, ∀ ob : Obj, (u.alloc ob).heap.size = u.heap.size + 1 := fun u ob => by simp
 have xm : Box (((w.alloc (.cells #[.int .i64 x.id, .int .i64 x.n, .int .i64 x.s, .slice am nm cm, .int .i64 x.lost, .int .i64 x.built, .int .i64 x.seq, .int .i64 x.tail, .int .i64 x.gen, .slice ad nd cd, .int .i64 x.fuse, .bool x.down, .bool x.broken] 33)).alloc (.cells #[.int .i64 0, .int .i64 0, .int .i64 0, .slice none 0 0, .int .i64 0, .int .i64 0, .int .i64 0, .int .i64 0, .int .i64 0, .slice none 0 0, .int .i64 0, .bool false, .bool false] 33)).alloc (.cells #[.int .i64 x.id, .int .i64 x.n, .int .i64 x.s, .slice none 0 0, .int .i64 x.lost, .int .i64 x.built, .int .i64 x.seq, .int .i64 x.tail, .int .i64 x.gen, .slice none 0 0, .int .i64 x.fuse, .bool x.down, .bool x.broken] 33)) (w.heap.size) 33 #[.int .i64 x.id, .int .i64 x.n, .int .i64 x.s, .slice am nm cm, .int .i64 x.lost, .int .i64 x.built, .int .i64 x.seq, .int .i64 x.tail, .int .i64 x.gen, .slice ad nd cd, .int .i64 x.fuse, .bool x.down, .bool x.broken] := ((Box.new w _ _).alloc _).alloc _
 have xr0 := Box.new (w.alloc (.cells #[.int .i64 x.id, .int .i64 x.n, .int .i64 x.s, .slice am nm cm, .int .i64 x.lost, .int .i64 x.built, .int .i64 x.seq, .int .i64 x.tail, .int .i64 x.gen, .slice ad nd cd, .int .i64 x.fuse, .bool x.down, .bool x.broken] 33)) 33 #[.int .i64 0, .int .i64 0, .int .i64 0, .slice none 0 0, .int .i64 0, .int .i64 0, .int .i64 0, .int .i64 0, .int .i64 0, .slice none 0 0, .int .i64 0, .bool false, .bool false]
 rw [zz] at xr0
 have xr : Box (((w.alloc (.cells #[.int .i64 x.id, .int .i64 x.n, .int .i64 x.s, .slice am nm cm, .int .i64 x.lost, .int .i64 x.built, .int .i64 x.seq, .int .i64 x.tail, .int .i64 x.gen, .slice ad nd cd, .int .i64 x.fuse, .bool x.down, .bool x.broken] 33)).alloc (.cells #[.int .i64 0, .int .i64 0, .int .i64 0, .slice none 0 0, .int .i64 0, .int .i64 0, .int .i64 0, .int .i64 0, .int .i64 0, .slice none 0 0, .int .i64 0, .bool false, .bool false] 33)).alloc (.cells #[.int .i64 x.id, .int .i64 x.n, .int .i64 x.s, .slice none 0 0, .int .i64 x.lost, .int .i64 x.built, .int .i64 x.seq, .int .i64 x.tail, .int .i64 x.gen, .slice none 0 0, .int .i64 x.fuse, .bool x.down, .bool x.broken] 33)) (w.heap.size + 1) 33 #[.int .i64 0, .int .i64 0, .int .i64 0, .slice none 0 0, .int .i64 0, .int .i64 0, .int .i64 0, .int .i64 0, .int .i64 0, .slice none 0 0, .int .i64 0, .bool false, .bool false] := xr0.alloc _
 have xo := Box.new ((w.alloc (.cells #[.int .i64 x.id, .int .i64 x.n, .int .i64 x.s, .slice am nm cm, .int .i64 x.lost, .int .i64 x.built, .int .i64 x.seq, .int .i64 x.tail, .int .i64 x.gen, .slice ad nd cd, .int .i64 x.fuse, .bool x.down, .bool x.broken] 33)).alloc (.cells #[.int .i64 0, .int .i64 0, .int .i64 0, .slice none 0 0, .int .i64 0, .int .i64 0, .int .i64 0, .int .i64 0, .int .i64 0, .slice none 0 0, .int .i64 0, .bool false, .bool false] 33)) 33 #[.int .i64 x.id, .int .i64 x.n, .int .i64 x.s, .slice none 0 0, .int .i64 x.lost, .int .i64 x.built, .int .i64 x.seq, .int .i64 x.tail, .int .i64 x.gen, .slice none 0 0, .int .i64 x.fuse, .bool x.down, .bool x.broken]
 rw [zz, zz] at xo
 have hB : Below (w.heap.size) w (((w.alloc (.cells #[.int .i64 x.id, .int .i64 x.n, .int .i64 x.s, .slice am nm cm, .int .i64 x.lost, .int .i64 x.built, .int .i64 x.seq, .int .i64 x.tail, .int .i64 x.gen, .slice ad nd cd, .int .i64 x.fuse, .bool x.down, .bool x.broken] 33)).alloc (.cells #[.int .i64 0, .int .i64 0, .int .i64 0, .slice none 0 0, .int .i64 0, .int .i64 0, .int .i64 0, .int .i64 0, .int .i64 0, .slice none 0 0, .int .i64 0, .bool false, .bool false] 33)).alloc (.cells #[.int .i64 x.id, .int .i64 x.n, .int .i64 x.s, .slice none 0 0, .int .i64 x.lost, .int .i64 x.built, .int .i64 x.seq, .int .i64 x.tail, .int .i64 x.gen, .slice none 0 0, .int .i64 x.fuse, .bool x.down, .bool x.broken] 33)) := (((Below.refl _ _).alloc (Nat.le_refl _) _).alloc (by simp) _).alloc (by simp; omega) _
 have hz : (((w.alloc (.cells #[.int .i64 x.id, .int .i64 x.n, .int .i64 x.s, .slice am nm cm, .int .i64 x.lost, .int .i64 x.built, .int .i64 x.seq, .int .i64 x.tail, .int .i64 x.gen, .slice ad nd cd, .int .i64 x.fuse, .bool x.down, .bool x.broken] 33)).alloc (.cells #[.int .i64 0, .int .i64 0, .int .i64 0, .slice none 0 0, .int .i64 0, .int .i64 0, .int .i64 0, .int .i64 0, .int .i64 0, .slice none 0 0, .int .i64 0, .bool false, .bool false] 33)).alloc (.cells #[.int .i64 x.id, .int .i64 x.n, .int .i64 x.s, .slice none 0 0, .int .i64 x.lost, .int .i64 x.built, .int .i64 x.seq, .int .i64 x.tail, .int .i64 x.gen, .slice none 0 0, .int .i64 x.fuse, .bool x.down, .bool x.broken] 33)).heap.size = w.heap.size + 1 + 1 + 1 := by simp
 have cm3 := xm.cell 3
 have cm9 := xm.cell 9
 clear xr0 zz
 go_enter Tryz.func32, Tryz.ntmps32
 go_wp2
 clear cm3 cm9
 generalize ((w.alloc (.cells #[.int .i64 x.id, .int .i64 x.n, .int .i64 x.s, .slice am nm cm, .int .i64 x.lost, .int .i64 x.built, .int .i64 x.seq, .int .i64 x.tail, .int .i64 x.gen, .slice ad nd cd, .int .i64 x.fuse, .bool x.down, .bool x.broken] 33)).alloc (.cells #[.int .i64 0, .int .i64 0, .int .i64 0, .slice none 0 0, .int .i64 0, .int .i64 0, .int .i64 0, .int .i64 0, .int .i64 0, .slice none 0 0, .int .i64 0, .bool false, .bool false] 33)).alloc (.cells #[.int .i64 x.id, .int .i64 x.n, .int .i64 x.s, .slice none 0 0, .int .i64 x.lost, .int .i64 x.built, .int .i64 x.seq, .int .i64 x.tail, .int .i64 x.gen, .slice none 0 0, .int .i64 x.fuse, .bool x.down, .bool x.broken] 33) = W2 at xm xr xo hB hz ⊢
 obtain ⟨LB, hLB⟩ : ∃ LB, W2.heap.size = LB := ⟨_, rfl⟩
 rw [hLB] at hz
 have q3 : w.heap.size + 1 + 1 + 1 <= LB /\ LB <= w.heap.size + 1 + 1 + 1 := by omega
 have hzL : LB <= W2.heap.size := by omega
 clear hLB hz
 obtain ⟨BO, hBO⟩ : ∃ BO, w.heap.size + 1 + 1 = BO := ⟨_, rfl⟩
 rw [hBO] at xo ⊢
 have q2 : w.heap.size + 1 + 1 <= BO /\ BO <= w.heap.size + 1 + 1 := by omega
 clear hBO
 obtain ⟨BR, hBR⟩ : ∃ BR, w.heap.size + 1 = BR := ⟨_, rfl⟩
 rw [hBR] at xr ⊢
 have q1 : w.heap.size + 1 <= BR /\ BR <= w.heap.size + 1 := by omega
 clear hBR
 have XM2 := hidden xm
 have XR2 := hidden xr
 have XO2 := hidden xo
 have HB2 := hidden hB
 clear xm xr xo hB
 go_loopw [14] (fun i wr => ∃ (j : Nat) (v0 : Value) (fp0 : List Nat), j <= nm /\ i = .int .i64 j /\ Fr LB BO W2 wr /\ Box wr BO 33 #[.int .i64 x.id, .int .i64 x.n, .int .i64 x.s, v0, .int .i64 x.lost, .int .i64 x.built, .int .i64 x.seq, .int .i64 x.tail, .int .i64 x.gen, .slice none 0 0, .int .i64 x.fuse, .bool x.down, .bool x.broken] /\ (tMemS 109 51).Mine wr [v0] (ms.take j) fp0 /\ (∀ b ∈ fp0, LB <= b)) (fun i _ => nm - (intOf i).toNat)
 case atStart => exact ⟨0, _, [], Nat.zero_le _, rfl, Fr.refl _ _ _, XO2.out, nil_mine _, by simp⟩
 obtain ⟨j, v0, fp0, hj, rfl, fr, xo, hm, hfp⟩ := hrel
 have hs := fr.size
 have hb := HB2.out.trans (fr.below (M := w.heap.size) (by omega) (by omega))
 by_cases hjn : j < nm
 . rcases quads_at rfl h0 with h0' | ⟨b, off, rfl, hbl, hcs⟩
   . omega
   have hdj : ms[j]? = some (ms[j]'(by omega)) := List.getElem?_eq_getElem (by omega)
   have htk : ms.take (j + 1) = ms.take j ++ [ms[j]'(by omega)] := List.take_succ_eq_append_getElem (by omega)
   generalize ms[j]'(by omega) = d at hdj htk
   have hin := Nat.le_trans (inner_leM hdj) hwm
   obtain ⟨u0, u1, u2, u3, hv0, hv1, hv2, hv3, hrv⟩ := hcs j d hdj
   obtain ⟨a0, c0, a1, c1, a3, c3', ss, cs, f, bs, rfl, rfl, rfl, rfl, rfl, r0, r1, r3⟩ := mem_at hrv
   have pv0 := (hb.cell (p := ⟨b, off + j * 4, none⟩) hbl).trans hv0
   have pv1 := (hb.cell (p := ⟨b, off + j * 4 + 1, none⟩) hbl).trans hv1
   have pv2 := (hb.cell (p := ⟨b, off + j * 4 + 2, none⟩) hbl).trans hv2
   have pv3 := (hb.cell (p := ⟨b, off + j * 4 + 3, none⟩) hbl).trans hv3
   have nb := new_below wr (.cells #[.slice a0 ss.length c0, .slice a1 cs.length c1, .bool f, .slice a3 bs.length c3'] 51)
   have hzm : (wr.alloc (.cells #[.slice a0 ss.length c0, .slice a1 cs.length c1, .bool f, .slice a3 bs.length c3'] 51)).heap.size = wr.heap.size + 1 := by simp
   have hbm := Below.andThen hb nb
   have R0 := hidden (r0.below hbm)
   have R1 := hidden (r1.below hbm)
   have R3 := hidden (r3.below hbm)
   have xom := xo.alloc (.cells #[.slice a0 ss.length c0, .slice a1 cs.length c1, .bool f, .slice a3 bs.length c3'] 51)
   have xmm := Box.new wr 51 #[.slice a0 ss.length c0, .slice a1 cs.length c1, .bool f, .slice a3 bs.length c3']
   have hmm := hm.alloc (.cells #[.slice a0 ss.length c0, .slice a1 cs.length c1, .bool f, .slice a3 bs.length c3'] 51)
   have frm : Fr LB BO W2 (wr.alloc (.cells #[.slice a0 ss.length c0, .slice a1 cs.length c1, .bool f, .slice a3 bs.length c3'] 51)) := fr.trans (Fr.ofBelow nb (by omega))
   have k1 : (0 : Int) <= (j : Int) := by omega
   have k2 : (j : Int) < (nm : Int) := by omega
   have HL : Hid ((ms.take j).length = j) := by unfold Hid; rw [List.length_take]; omega
   have L1 : Hid ((ms.take j).length + 1 <= maxLen) := by unfold Hid; rw [HL.out]; unfold maxLen; omega
   have L2 : Hid (((ms.take j).length + 1) * 80 <= 140737488355328) := by unfold Hid; rw [HL.out]; omega
   have hlt0 : ∀ b ∈ fp0, b < wr.heap.size := hm.lt
   have HTK := hidden htk
   have FRR := hidden frm
   have HM := hidden hmm
   have HFP := hidden hfp
   have XO := hidden xom
   have XMM := hidden xmm
   clear hcs hdj hv0 hv1 hv2 hv3 hrv htk xo hm hfp hb fr r0 r1 r3 nb hbm xom xmm hmm frm
   go_wp2_with fail
   generalize wr.alloc (.cells #[.slice a0 ss.length c0, .slice a1 cs.length c1, .bool f, .slice a3 bs.length c3'] 51) = wm at R0 R1 R3 FRR HM XO XMM hzm ⊢
   have FLT := hidden hlt0
   obtain ⟨MB, hMB⟩ : ∃ MB, wr.heap.size = MB := ⟨_, rfl⟩
   rw [hMB] at XMM hzm hs FLT ⊢
   clear hMB pv0 pv1 pv2 pv3
   have zMB : MB < wm.heap.size := by omega
   have zBO : BO < wm.heap.size := by omega
   have hzm2 : MB + 1 <= wm.heap.size := by omega
   clear hzm
   have mk : Hid (∀ w', Box w' BO 33 #[.int .i64 x.id, .int .i64 x.n, .int .i64 x.s, v0, .int .i64 x.lost, .int .i64 x.built, .int .i64 x.seq, .int .i64 x.tail, .int .i64 x.gen, .slice none 0 0, .int .i64 x.fuse, .bool x.down, .bool x.broken] -> Box w' MB 51 #[.slice a0 ss.length c0, .slice a1 cs.length c1, .bool f, .slice a3 bs.length c3'] -> w'.cell? ⟨BO, 3, none⟩ = some (v0) /\ w'.cell? ⟨MB, 0, none⟩ = some (.slice a0 ss.length c0) /\ w'.cell? ⟨MB, 1, none⟩ = some (.slice a1 cs.length c1) /\ w'.cell? ⟨MB, 2, none⟩ = some (.bool f) /\ w'.cell? ⟨MB, 3, none⟩ = some (.slice a3 bs.length c3')) := fun w' h1 h2 => ⟨h1.cell 3, h2.cell 0, h2.cell 1, h2.cell 2, h2.cell 3⟩
   have hS : wm.drew.cell? ⟨BO, 3, none⟩ = some (v0) /\ wm.drew.cell? ⟨MB, 0, none⟩ = some (.slice a0 ss.length c0) /\ wm.drew.cell? ⟨MB, 1, none⟩ = some (.slice a1 cs.length c1) /\ wm.drew.cell? ⟨MB, 2, none⟩ = some (.bool f) /\ wm.drew.cell? ⟨MB, 3, none⟩ = some (.slice a3 bs.length c3') := mk.out wm.drew XO.out XMM.out
   refine Upto.start (S := fun w' => w'.cell? ⟨BO, 3, none⟩ = some (v0) /\ w'.cell? ⟨MB, 0, none⟩ = some (.slice a0 ss.length c0) /\ w'.cell? ⟨MB, 1, none⟩ = some (.slice a1 cs.length c1) /\ w'.cell? ⟨MB, 2, none⟩ = some (.bool f) /\ w'.cell? ⟨MB, 3, none⟩ = some (.slice a3 bs.length c3')) (k := 7) (by kernel_rfl) ?_
   refine Upto.t 0 hS ?_
   refine Upto.t 1 hS ?_
   refine Upto.t 2 hS ?_
   refine Upto.one (i := 3) (by kernel_rfl) rfl (fun K hK => ?_)
   go_simp
   refine (copyMem_any _ E _ _ _ _ _ _ _ _ _ ss cs f bs R0.out.drew R1.out.drew R3.out.drew hin).mono ?_
   rintro e wc ⟨y0, y1, y3, m1, m2, rfl, o3, o0, o1, hm12, hm01, hm22, bc⟩
   have hbc' : Below wm.heap.size wm wc := (Below.refl wm.heap.size wm).drew.trans bc
   have hm01' : wm.heap.size <= m1 := hm01
   have om : (tMem 109).Own wc wm.heap.size wc.heap.size [y0, y1, .bool f, y3] (ss, cs, f, bs) := mem_own3 o0 o1 o3 (.inl (Nat.le_refl _)) (.inr (Nat.le_refl _)) (.inr hm12) ⟨by omega, by omega⟩ ⟨by omega, Nat.le_refl _⟩ ⟨Nat.le_refl _, by omega⟩
   obtain ⟨e0, g0, rfl⟩ := row_shape o0.rd
   obtain ⟨e1, g1, rfl⟩ := row_shape o1.rd
   obtain ⟨e3, g3, rfl⟩ := row_shape o3.rd
   obtain ⟨fpx, mx, rx⟩ := om.mine
   have xoc := XO.out.below hbc' zBO
   have xmc := XMM.out.below hbc' zMB
   have hS3 : wc.cell? ⟨BO, 3, none⟩ = some (v0) /\ wc.cell? ⟨MB, 0, none⟩ = some (.slice a0 ss.length c0) /\ wc.cell? ⟨MB, 1, none⟩ = some (.slice a1 cs.length c1) /\ wc.cell? ⟨MB, 2, none⟩ = some (.bool f) /\ wc.cell? ⟨MB, 3, none⟩ = some (.slice a3 bs.length c3') := mk.out wc xoc xmc
   have zc := hbc'.size
   have hS4 : (wc.alloc (.cells #[.slice e0 ss.length g0, .slice e1 cs.length g1, .bool f, .slice e3 bs.length g3] 51)).cell? ⟨BO, 3, none⟩ = some (v0) /\ (wc.alloc (.cells #[.slice e0 ss.length g0, .slice e1 cs.length g1, .bool f, .slice e3 bs.length g3] 51)).cell? ⟨MB, 0, none⟩ = some (.slice a0 ss.length c0) /\ (wc.alloc (.cells #[.slice e0 ss.length g0, .slice e1 cs.length g1, .bool f, .slice e3 bs.length g3] 51)).cell? ⟨MB, 1, none⟩ = some (.slice a1 cs.length c1) /\ (wc.alloc (.cells #[.slice e0 ss.length g0, .slice e1 cs.length g1, .bool f, .slice e3 bs.length g3] 51)).cell? ⟨MB, 2, none⟩ = some (.bool f) /\ (wc.alloc (.cells #[.slice e0 ss.length g0, .slice e1 cs.length g1, .bool f, .slice e3 bs.length g3] 51)).cell? ⟨MB, 3, none⟩ = some (.slice a3 bs.length c3') := mk.out _ (xoc.alloc _) (xmc.alloc _)
   have XOC := hidden xoc
   have XMC := hidden xmc
   have MX := hidden mx
   have RX := hidden rx
   have HBC := hidden hbc'
   clear xoc xmc mx rx hbc' bc om o0 o1 o3 hm01 hm01' hm12 hm22 R0 R1 R3
   go_wp2_with fail
   refine hK.out _ _ (fun _ => hS3) ?_
   clear hK K
   refine Upto.one (i := 4) (by kernel_rfl) rfl (fun K hK => ?_)
   go_simp
   refine hK.out _ _ (fun _ => hS4) ?_
   clear hK K
   refine Upto.one (i := 5) (by kernel_rfl) rfl (fun K hK => ?_)
   refine step_appT (tMem 109) (by rfl) _ _ 30 (by rfl) 51 i4 (.agg #[.slice none 0 0, .slice none 0 0, .bool false, .slice none 0 0]) 80 Tryz.underlying30 hi4 hz0 hz1 hz2 rfl (by decide) v0 (ms.take j) fp0 (by rfl) ?_ ⟨wc.heap.size, 0, none⟩ 1 [.slice e0 ss.length g0, .slice e1 cs.length g1, .bool f, .slice e3 bs.length g3] (ss, cs, f, bs) fpx (by rfl) ?_ ?_ ?_ ?_ L1.out L2.out ?_
   . exact (HM.out.below HBC.out).alloc _
   . exact MX.out.alloc _
   . intro b hb hb'
     have h1 := HM.out.lt b hb
     have h2 := RX.out b hb'
     omega
   . exact news_new _ _ _
   . intro u hu
     simp at hu
     rcases hu with hu | hu | hu | hu <;> (rw [hu]; rfl)
   intro g cap wA fpA m1 m2 m3
   rw [HL.out] at m1 ⊢
   rw [← HTK.out] at m1
   have nMB : MB ∉ fp0 := fun hm => by have := FLT.out _ hm; omega
   have ya := (XOC.out.alloc (.cells #[.slice e0 ss.length g0, .slice e1 cs.length g1, .bool f, .slice e3 bs.length g3] 51)).turned m3 (fun hm => by have := HFP.out _ hm; omega)
   have ym := (XMC.out.alloc (.cells #[.slice e0 ss.length g0, .slice e1 cs.length g1, .bool f, .slice e3 bs.length g3] 51)).turned m3 nMB
   have hS5 : wA.cell? ⟨BO, 3, none⟩ = some (v0) /\ wA.cell? ⟨MB, 0, none⟩ = some (.slice a0 ss.length c0) /\ wA.cell? ⟨MB, 1, none⟩ = some (.slice a1 cs.length c1) /\ wA.cell? ⟨MB, 2, none⟩ = some (.bool f) /\ wA.cell? ⟨MB, 3, none⟩ = some (.slice a3 bs.length c3') := mk.out wA ya ym
   have r0 := hS5.1
   have fz := ya.frozen 3
   have YA := hidden ya
   have M1 := hidden m1
   have M2 := hidden m2
   have M3 := hidden m3
   clear ya ym m1 m2 m3 nMB
   refine hK.out _ _ (fun _ => hS5) ?_
   clear hK K
   simp only [Act.put, List.setIfInBounds_toArray, List.set_cons_zero, List.set_cons_succ]
   refine Upto.t 6 hS5 ?_
   refine Upto.one (i := 7) (by kernel_rfl) rfl (fun K hK => ?_)
   go_simp
   refine hK.out _ _ (fun h => absurd rfl h) ?_
   clear hK K
   refine Upto.done (by kernel_rfl) ?_ _
   have HFA := hidden (round_fp (N := LB) (by omega) HBC.out HFP.out RX.out M2.out)
   have FRA := hidden (Fr.round FRR.out (by omega) HBC.out _ M3.out HFP.out 3 (.slice (some ⟨g, 0, none⟩) (j + 1) cap))
   have MA := hidden (M1.out.setCell (g := BO) (j := 3) (fun hm => by have := HFA.out _ hm; omega) (.slice (some ⟨g, 0, none⟩) (j + 1) cap))
   have YA' := hidden (YA.out.set 3 (.slice (some ⟨g, 0, none⟩) (j + 1) cap))
   clear hS hS3 hS4 hS5 r0 YA M1 M2 M3 XOC MX RX HBC HFP HM FRR XO XMM XMC mk FLT
   go_wp2
   go_roundw
   case rel => exact ⟨j + 1, _, fpA, by omega, by go_num, FRA.out, YA'.out, MA.out, HFA.out⟩
   case measure => simp [intOf]; omega
 have ej : nm = j := by omega
 subst ej
 rw [List.take_of_length_le (by omega)] at hm
 have hlt := hm.lt
 obtain ⟨eM, gM, hvM⟩ := row_shape hm.rd
 rw [hl0] at hvM
 subst hvM
 have KM := hm.own (lo := LB) (hi := wr.heap.size) (fun b hb => ⟨hfp b hb, hlt b hb⟩)
 have xr := fr.box XR2.out (by omega) (by omega)
 have xm := fr.box XM2.out (by omega) (by omega)
 have c9 : wr.cell? ⟨w.heap.size, 9, none⟩ = some (.slice ad nd cd) := xm.cell 9
 obtain ⟨LE, hLE⟩ : ∃ LE, wr.heap.size = LE := ⟨_, rfl⟩
 rw [hLE] at KM hs
 have hLE2 : LE <= wr.heap.size := by omega
 clear hLE
 have XM3 := hidden xm
 have XR3 := hidden xr
 have XO3 := hidden xo
 have KM3 := hidden KM
 have HB3 := hidden hb
 clear fr xo xm hm hfp hlt KM xr hb hj XM2 XR2 XO2 HB2
 go_wp2
 clear c9
 obtain ⟨wo, hwo⟩ : ∃ y, y = wr := ⟨_, rfl⟩
 subst hwo
 go_loopw [29] (fun i wq => ∃ (j : Nat) (v1 : Value) (fp1 : List Nat), j <= nd /\ i = .int .i64 j /\ Fr LE BO wo wq /\ Box wq BO 33 #[.int .i64 x.id, .int .i64 x.n, .int .i64 x.s, .slice eM nm gM, .int .i64 x.lost, .int .i64 x.built, .int .i64 x.seq, .int .i64 x.tail, .int .i64 x.gen, v1, .int .i64 x.fuse, .bool x.down, .bool x.broken] /\ (tWrS 82).Mine wq [v1] (ds.take j) fp1 /\ (∀ b ∈ fp1, LE <= b)) (fun i _ => nd - (intOf i).toNat)
 case atStart => exact ⟨0, _, [], Nat.zero_le _, rfl, Fr.refl _ _ _, XO3.out, nil_mine _, by simp⟩
 obtain ⟨j, v1, fp1, hj, rfl, fr, xo, hm, hfp⟩ := hrel
 have hs3 := fr.size
 have hb := HB3.out.trans (fr.below (M := w.heap.size) (by omega) (by omega))
 by_cases hjn : j < nd
 . rcases pairs_at rfl h1 with h0' | ⟨b, off, rfl, hbl, hcs⟩
   . omega
   have hdj : ds[j]? = some (ds[j]'(by omega)) := List.getElem?_eq_getElem (by omega)
   have htk : ds.take (j + 1) = ds.take j ++ [ds[j]'(by omega)] := List.take_succ_eq_append_getElem (by omega)
   generalize ds[j]'(by omega) = d at hdj htk
   have hil := inner_le' hdj
   obtain ⟨u0, u1, hv0, hv1, hrv⟩ := hcs j d hdj
   obtain ⟨rfl, hrv'⟩ := wr_rd hrv
   obtain ⟨av, cv, rfl⟩ := row_shape hrv'
   have pv0 := (hb.cell (p := ⟨b, off + j * 2, none⟩) hbl).trans hv0
   have pv1 := (hb.cell (p := ⟨b, off + j * 2 + 1, none⟩) hbl).trans hv1
   obtain ⟨x0, x1⟩ := d
   simp only at pv0 pv1 hrv' hil
   have nb := new_below wr (.cells #[.int .i64 x0, .slice av x1.length cv] 82)
   have hzm : (wr.alloc (.cells #[.int .i64 x0, .slice av x1.length cv] 82)).heap.size = wr.heap.size + 1 := by simp
   have HX := hidden (hrv'.below (Below.andThen hb nb))
   have k1 : (0 : Int) <= (j : Int) := by omega
   have k2 : (j : Int) < (nd : Int) := by omega
   have xom := xo.alloc (.cells #[.int .i64 x0, .slice av x1.length cv] 82)
   have xmm := Box.new wr 82 #[.int .i64 x0, .slice av x1.length cv]
   have hmm := hm.alloc (.cells #[.int .i64 x0, .slice av x1.length cv] 82)
   have frm : Fr LE BO wo (wr.alloc (.cells #[.int .i64 x0, .slice av x1.length cv] 82)) := fr.trans (Fr.ofBelow nb (by omega))
   have hlt0 : ∀ b ∈ fp1, b < wr.heap.size := hm.lt
   have HL : Hid ((ds.take j).length = j) := by unfold Hid; rw [List.length_take]; omega
   have L1 : Hid ((ds.take j).length + 1 <= maxLen) := by unfold Hid; rw [HL.out]; unfold maxLen; omega
   have L2 : Hid (((ds.take j).length + 1) * 32 <= 140737488355328) := by unfold Hid; rw [HL.out]; omega
   have HTK := hidden htk
   have FRR := hidden frm
   have HM := hidden hmm
   have HFP := hidden hfp
   have XO := hidden xom
   have XMM := hidden xmm
   have FLT := hidden hlt0
   clear hcs hdj hv0 hv1 hrv hrv' htk xo hm hfp hb fr nb xom xmm hmm frm hlt0
   go_wp2_with fail
   generalize wr.alloc (.cells #[.int .i64 x0, .slice av x1.length cv] 82) = wm at HX FRR HM XO XMM hzm ⊢
   obtain ⟨MB, hMB⟩ : ∃ MB, wr.heap.size = MB := ⟨_, rfl⟩
   rw [hMB] at XMM hzm hs3 FLT ⊢
   clear hMB pv0 pv1
   have zMB : MB < wm.heap.size := by omega
   have zBO : BO < wm.heap.size := by omega
   have hzm2 : MB + 1 <= wm.heap.size := by omega
   clear hzm
   have mk : Hid (∀ w', Box w' BO 33 #[.int .i64 x.id, .int .i64 x.n, .int .i64 x.s, .slice eM nm gM, .int .i64 x.lost, .int .i64 x.built, .int .i64 x.seq, .int .i64 x.tail, .int .i64 x.gen, v1, .int .i64 x.fuse, .bool x.down, .bool x.broken] -> Box w' MB 82 #[.int .i64 x0, .slice av x1.length cv] -> w'.cell? ⟨BO, 9, none⟩ = some (v1) /\ w'.cell? ⟨MB, 0, none⟩ = some (.int .i64 x0) /\ w'.cell? ⟨MB, 1, none⟩ = some (.slice av x1.length cv)) := fun w' h1 h2 => ⟨h1.cell 9, h2.cell 0, h2.cell 1⟩
   have hS : wm.drew.cell? ⟨BO, 9, none⟩ = some (v1) /\ wm.drew.cell? ⟨MB, 0, none⟩ = some (.int .i64 x0) /\ wm.drew.cell? ⟨MB, 1, none⟩ = some (.slice av x1.length cv) := mk.out wm.drew XO.out XMM.out
   refine Upto.start (S := fun w' => w'.cell? ⟨BO, 9, none⟩ = some (v1) /\ w'.cell? ⟨MB, 0, none⟩ = some (.int .i64 x0) /\ w'.cell? ⟨MB, 1, none⟩ = some (.slice av x1.length cv)) (k := 11) (by kernel_rfl) ?_
   refine Upto.t 0 hS ?_
   refine Upto.t 1 hS ?_
   refine Upto.t 2 hS ?_
   refine Upto.t 3 hS ?_
   refine Upto.t 4 hS ?_
   refine Upto.t 5 hS ?_
   refine Upto.one (i := 6) (by kernel_rfl) rfl (fun K hK => ?_)
   go_simp
   refine (copyWords_any _ _ _ _ x1 HX.out.drew (by omega)).mono ?_
   rintro e wc ⟨ac, cc, rfl, ow, bc⟩
   have hbc' : Below wm.heap.size wm wc := (Below.refl wm.heap.size wm).drew.trans bc
   obtain ⟨fpx, mx, rx0⟩ := ow.mine
   have rx : ∀ b ∈ fpx, wm.heap.size <= b /\ b < wc.heap.size := rx0
   have xoc := XO.out.below hbc' zBO
   have xmc := XMM.out.below hbc' zMB
   have hS3 : wc.cell? ⟨BO, 9, none⟩ = some (v1) /\ wc.cell? ⟨MB, 0, none⟩ = some (.int .i64 x0) /\ wc.cell? ⟨MB, 1, none⟩ = some (.slice av x1.length cv) := mk.out wc xoc xmc
   have zc := hbc'.size
   have hS4 : (wc.alloc (.cells #[.int .i64 x0, .slice ac x1.length cc] 82)).cell? ⟨BO, 9, none⟩ = some (v1) /\ (wc.alloc (.cells #[.int .i64 x0, .slice ac x1.length cc] 82)).cell? ⟨MB, 0, none⟩ = some (.int .i64 x0) /\ (wc.alloc (.cells #[.int .i64 x0, .slice ac x1.length cc] 82)).cell? ⟨MB, 1, none⟩ = some (.slice av x1.length cv) := mk.out _ (xoc.alloc _) (xmc.alloc _)
   have XOC := hidden xoc
   have XMC := hidden xmc
   have MX := hidden mx
   have RX := hidden rx
   have HBC := hidden hbc'
   clear xoc xmc mx rx rx0 hbc' bc ow HX
   go_wp2_with fail
   refine hK.out _ _ (fun _ => hS3) ?_
   clear hK K
   refine Upto.t 7 hS3 ?_
   refine Upto.one (i := 8) (by kernel_rfl) rfl (fun K hK => ?_)
   go_simp
   refine hK.out _ _ (fun _ => hS4) ?_
   clear hK K
   refine Upto.one (i := 9) (by kernel_rfl) rfl (fun K hK => ?_)
   refine step_appT tWr (by rfl) _ _ 31 (by rfl) 82 i1 (.agg #[.int .i64 0, .slice none 0 0]) 32 Tryz.underlying31 hi1 hy0 hy1 hy2 rfl Nat.zero_lt_two v1 (ds.take j) fp1 (by rfl) ?_ ⟨wc.heap.size, 0, none⟩ 1 [.int .i64 x0, .slice ac x1.length cc] (x0, x1) fpx (by rfl) ?_ ?_ ?_ ?_ L1.out L2.out ?_
   . exact (HM.out.below HBC.out).alloc _
   . exact (wr_mine x0 MX.out).alloc _
   . intro b hb hb'
     have h1 := HM.out.lt b hb
     have h2 := RX.out b hb'
     omega
   . exact news_new _ _ _
   . intro u hu
     simp at hu
     rcases hu with hu | hu <;> (rw [hu]; rfl)
   intro g cap wA fpA m1 m2 m3
   rw [HL.out] at m1 ⊢
   rw [← HTK.out] at m1
   have nMB : MB ∉ fp1 := fun hm => by have := FLT.out _ hm; omega
   have ya := (XOC.out.alloc (.cells #[.int .i64 x0, .slice ac x1.length cc] 82)).turned m3 (fun hm => by have := HFP.out _ hm; omega)
   have ym := (XMC.out.alloc (.cells #[.int .i64 x0, .slice ac x1.length cc] 82)).turned m3 nMB
   have hS5 : wA.cell? ⟨BO, 9, none⟩ = some (v1) /\ wA.cell? ⟨MB, 0, none⟩ = some (.int .i64 x0) /\ wA.cell? ⟨MB, 1, none⟩ = some (.slice av x1.length cv) := mk.out wA ya ym
   have r0 := hS5.1
   have fz := ya.frozen 9
   have YA := hidden ya
   have M1 := hidden m1
   have M2 := hidden m2
   have M3 := hidden m3
   clear ya ym m1 m2 m3 nMB
   refine hK.out _ _ (fun _ => hS5) ?_
   clear hK K
   simp only [Act.put, List.setIfInBounds_toArray, List.set_cons_zero, List.set_cons_succ]
   refine Upto.t 10 hS5 ?_
   refine Upto.one (i := 11) (by kernel_rfl) rfl (fun K hK => ?_)
   go_simp
   refine hK.out _ _ (fun h => absurd rfl h) ?_
   clear hK K
   refine Upto.done (by kernel_rfl) ?_ _
   have HFA := hidden (round_fp (N := LE) (by omega) HBC.out HFP.out RX.out M2.out)
   have FRA := hidden (Fr.round FRR.out (by omega) HBC.out _ M3.out HFP.out 9 (.slice (some ⟨g, 0, none⟩) (j + 1) cap))
   have MA := hidden (M1.out.setCell (g := BO) (j := 9) (fun hm => by have := HFA.out _ hm; omega) (.slice (some ⟨g, 0, none⟩) (j + 1) cap))
   have YA' := hidden (YA.out.set 9 (.slice (some ⟨g, 0, none⟩) (j + 1) cap))
   clear hS hS3 hS4 hS5 r0 YA M1 M2 M3 XOC MX RX HBC HFP HM FRR XO XMM XMC mk FLT
   go_wp2
   go_roundw
   case rel => exact ⟨j + 1, _, fpA, by omega, by go_num, FRA.out, YA'.out, MA.out, HFA.out⟩
   case measure => simp [intOf]; omega
 have ej : nd = j := by omega
 subst ej
 rw [List.take_of_length_le (by omega)] at hm
 have hlt := hm.lt
 obtain ⟨eD, gD, hvD⟩ := row_shape hm.rd
 rw [hl1] at hvD
 subst hvD
 have K1 := hm.own (lo := LE) (hi := wr.heap.size) (fun b hb => ⟨hfp b hb, hlt b hb⟩)
 have K0 := fr.own KM3.out (Nat.le_refl _) (.inr (by omega))
 have xr := fr.box XR3.out (by omega) (by omega)
 have hbt := puts_but BR [(0, .int .i64 x.id), (1, .int .i64 x.n), (2, .int .i64 x.s), (3, .slice eM nm gM), (4, .int .i64 x.lost), (5, .int .i64 x.built), (6, .int .i64 x.seq), (7, .int .i64 x.tail), (8, .int .i64 x.gen), (9, .slice eD nd gD), (10, .int .i64 x.fuse), (11, .bool x.down), (12, .bool x.broken)] wr
 have H0 := K0.but hbt (.inr (by omega))
 have H1 := K1.but hbt (.inr (by omega))
 have HBB := Below.andBut hb hbt (by omega)
 have hsz := hbt.size
 have H0w := hidden (H0.widen (lo' := w.heap.size) (hi' := LE) (by omega) (Nat.le_refl _))
 have H1w := hidden (H1.widen (lo' := LE) (Nat.le_refl _) hsz)
 have HBw := hidden HBB
 have HSZ : Hid (LE <= (puts wr BR [(0, .int .i64 x.id), (1, .int .i64 x.n), (2, .int .i64 x.s), (3, .slice eM nm gM), (4, .int .i64 x.lost), (5, .int .i64 x.built), (6, .int .i64 x.seq), (7, .int .i64 x.tail), (8, .int .i64 x.gen), (9, .slice eD nd gD), (10, .int .i64 x.fuse), (11, .bool x.down), (12, .bool x.broken)]).heap.size) := by unfold Hid; omega
 simp only [puts] at H0w H1w HBw HSZ
 obtain ⟨p0, p1, p2, p3, p4, p5, p6, p7, p8, p9, p10, p11, p12⟩ := xr.cells13
 have fz := xr.frozen
 obtain ⟨r0, r1, r2, r3, r4, r5, r6, r7, r8, r9, r10, r11, r12⟩ := xo.cells13
 have hLw : w.heap.size <= LE := by omega
 clear fr xo hb hm hfp hlt xr K0 K1 hbt H0 H1 HBB hsz hj hs3
 go_wp2
 refine bodyPost_ret (v := .agg #[.int .i64 x.id, .int .i64 x.n, .int .i64 x.s, .slice eM nm gM, .int .i64 x.lost, .int .i64 x.built, .int .i64 x.seq, .int .i64 x.tail, .int .i64 x.gen, .slice eD nd gD, .int .i64 x.fuse, .bool x.down, .bool x.broken]) (by simp [results, Tryz.results32, go_sem, p0, p1, p2, p3, p4, p5, p6, p7, p8, p9, p10, p11, p12]) rfl ?_
 exact ⟨_, _, _, _, LE, rfl, H0w.out, H1w.out, hLw, HSZ.out, HBw.out⟩

end Go.Proofs.YtechckninoilhaaGreat

/-
  The walk of the program's settle: the disk with the last write of each sector put there, its cache empty, in memory of its own. Conditions: the disk and the writes weigh at most 2097152 each, the disk has at most 20 sectors, each write is of a sector 0 .. 20.
-/
import Derived.Test.YtgjldmjlbhkgbaaWalkFail
import Derived.Test.YtgjldmjlbhkgbaaStore
import Derived.Test.YtgjldmjlbhkgbaaFlush
import Derived.WideLaws
namespace Go.Proofs.Ytgjldmjlbhkgbaa
open Go.RowKit Go.Maps

/-- What is still in the map: the writes of the sectors from j on. -/
def RestOk (w : World) (ks : List (Int × List Int)) (j : Nat) (D : DataW Value) : Prop :=
  ∀ q : Nat, j ≤ q → (lastW ks (q : Int) = none → Maps.has D (.int .i64 q) = false) ∧ ∀ zs, lastW ks (q : Int) = some zs → Maps.has D (.int .i64 q) = true ∧ ∃ a cap, (∀ z, D.atKey (.int .i64 q) z = .held (.agg #[.int .i64 q, .slice a zs.length cap])) ∧ tIntS.Rd w [.slice a zs.length cap] zs
theorem LastOk.rest {w : World} {ks : List (Int × List Int)} {D : DataW Value} (h : LastOk w ks D) : RestOk w ks 0 D := fun q _ => ⟨(h q).1, fun zs hz => by
  obtain ⟨h1, a, n, cap, h2, h3⟩ := (h q).2 zs hz
  obtain ⟨hl, _, _⟩ := row_length h3
  subst hl
  exact ⟨h1, a, cap, h2, h3⟩⟩
theorem RestOk.next {w : World} {ks : List (Int × List Int)} {j : Nat} {D : DataW Value} (h : RestOk w ks j D) : RestOk w ks (j + 1) D := fun q hq => h q (by omega)
theorem RestOk.del {w : World} {ks : List (Int × List Int)} {j : Nat} {D : DataW Value} (h : RestOk w ks j D) : RestOk w ks (j + 1) (D.del (.int .i64 j)) := by
  intro q hq
  have hne : (Lit.int .i64 (q : Int)) ≠ Lit.int .i64 (j : Int) := fun e => by simp at e; omega
  obtain ⟨h1, h2⟩ := h q (by omega)
  refine ⟨fun e => by rw [has_del_other hne]; exact h1 e, fun zs e => ?_⟩
  obtain ⟨h3, a, cap, h4, h5⟩ := h2 zs e
  exact ⟨by rw [has_del_other hne]; exact h3, a, cap, fun z => by rw [atKey_del_other hne]; exact h4 z, h5⟩
theorem RestOk.empty {w : World} {ks : List (Int × List Int)} {j : Nat} {D : DataW Value} (h : RestOk w ks j D) (hD : IsMap D) (hz : Maps.size D = 0) : ∀ q : Nat, j ≤ q → lastW ks (q : Int) = none := by
  intro q hq
  cases hl : lastW ks (q : Int) with
  | none => rfl
  | some zs =>
    have h1 := ((h q hq).2 zs hl).1
    obtain ⟨es, rfl⟩ := hD
    have h2 : es = [] := List.eq_nil_of_length_eq_zero hz
    subst h2
    simp [Maps.has] at h1
theorem look_here {w : World} {ops : Array Oper} {rest : List Oper} {o : Oper} {a : Act} {Q : Exit → Act → World → Prop} (hg : o.guard = none) (m x : Operand) (hop : o.op = Op.lookup 111 m x true) (b n : Nat) (D : DataW Value) (q : Int) (v : Value)
    (hm : a.eval m = .map (some b)) (hown : w.ownsMap Try.prog 3 heldV b n D) (hx : a.eval x = .int .i64 q) (hkey : keyOf Try.prog 3 (.int .i64 q) = some (.int .i64 q)) (h1 : Maps.has D (.int .i64 q) = true) (h2 : ∀ z, D.atKey (.int .i64 q) z = .held v)
    (hK : wpList Try.prog ops Q rest (a.put o.dst (.tuple #[v, .bool true])) w) : wpList Try.prog ops Q (o :: rest) a w := by
  refine wpList_lookup_own_ok w hg m x _ hop 3 100 lawInt Try.underlying111 heldV (zeroWr w) (.held (.agg #[.int .i64 0, .slice none 0 0])) [] rfl b n D hm hown _ _ hx hkey ?_
  intro v' ps hv
  rw [h2] at hv
  have hv' : v' = v := by simp [heldV] at hv; exact hv.1
  subst hv'
  rw [h1]
  exact hK
theorem look_away {w : World} {ops : Array Oper} {rest : List Oper} {o : Oper} {a : Act} {Q : Exit → Act → World → Prop} (hg : o.guard = none) (m x : Operand) (hop : o.op = Op.lookup 111 m x true) (b n : Nat) (D : DataW Value) (q : Int)
    (hm : a.eval m = .map (some b)) (hown : w.ownsMap Try.prog 3 heldV b n D) (hx : a.eval x = .int .i64 q) (hkey : keyOf Try.prog 3 (.int .i64 q) = some (.int .i64 q)) (h1 : Maps.has D (.int .i64 q) = false)
    (hK : wpList Try.prog ops Q rest (a.put o.dst (.tuple #[.agg #[.int .i64 0, .slice none 0 0], .bool false])) w) : wpList Try.prog ops Q (o :: rest) a w := by
  refine wpList_lookup_own_ok w hg m x _ hop 3 100 lawInt Try.underlying111 heldV (zeroWr w) (.held (.agg #[.int .i64 0, .slice none 0 0])) [] rfl b n D hm hown _ _ hx hkey ?_
  intro v ps hv
  rw [Maps.atKey_of_not_has h1] at hv
  have hv' : v = .agg #[.int .i64 0, .slice none 0 0] := by simp [heldV] at hv; exact hv.1
  subst hv'
  rw [h1]
  exact hK
theorem Below.grows {w w' : World} (h : Below w.heap.size w w') : w.grownBy w' none := ⟨h.os, h.tape, h.output, h.size, fun k hk _ => h.block k hk⟩

set_option maxHeartbeats 3200000 in
theorem settle_any (w : World) (E Ek : TypeId) (a0 a1 a3 ak : Option Addr) (n0 c0 n1 c1 n3 c3 nk ck : Nat) (ss : List (List Int)) (cs : List (Int × List Int)) (f : Bool) (bs : List Int) (h0 : tIntSS.Rd w [.slice a0 n0 c0] ss) (h1 : (tWrS E).Rd w [.slice a1 n1 c1] cs) (h3 : tIntS.Rd w [.slice a3 n3 c3] bs) (hw : wtMem (ss, cs, f, bs) ≤ 2097152) (ks : List (Int × List Int)) (hk : (tWrS Ek).Rd w [.slice ak nk ck] ks) (hwk : wtWrS ks ≤ 2097152) (hks : ∀ x ∈ ks, 0 ≤ x.1 ∧ x.1 ≤ 20) (hn20 : n0 ≤ 20) :
    Calls Try.prog 73 #[.agg #[.slice a0 n0 c0, .slice a1 n1 c1, .bool f, .slice a3 n3 c3], .slice ak nk ck] w fun e w' => ∃ v0 v1 v3, e = .returned (.agg #[v0, v1, .bool f, v3]) ∧ (tMem 100).Own w' w.heap.size w'.heap.size [v0, v1, .bool f, v3] (flushD ss ks, [], f, bs) ∧ Below w.heap.size w w' := by
  obtain ⟨hl0, _, hm0⟩ := row_length h0
  obtain ⟨hl1, _, hm1⟩ := row_length h1
  obtain ⟨hl3, _, hm3⟩ := row_length h3
  have hA : Below w.heap.size w ((w.alloc (.cells #[.slice a0 n0 c0, .slice a1 n1 c1, .bool f, .slice a3 n3 c3] 57)).alloc (.cells #[.slice none 0 0, .slice none 0 0, .bool false, .slice none 0 0] 57)) := ((Below.refl _ _).alloc (Nat.le_refl _) _).alloc (by simp) _
  have xr : Box ((w.alloc (.cells #[.slice a0 n0 c0, .slice a1 n1 c1, .bool f, .slice a3 n3 c3] 57)).alloc (.cells #[.slice none 0 0, .slice none 0 0, .bool false, .slice none 0 0] 57)) (w.heap.size + 1) 57 #[.slice none 0 0, .slice none 0 0, .bool false, .slice none 0 0] := by
    have := Box.new (w.alloc (.cells #[.slice a0 n0 c0, .slice a1 n1 c1, .bool f, .slice a3 n3 c3] 57)) 57 #[.slice none 0 0, .slice none 0 0, .bool false, .slice none 0 0]
    rw [show (w.alloc (.cells #[.slice a0 n0 c0, .slice a1 n1 c1, .bool f, .slice a3 n3 c3] 57)).heap.size = w.heap.size + 1 by simp] at this
    exact this
  go_enter Try.func73, Try.ntmps73
  go_wp2_with fail
  generalize hW : (w.alloc (.cells #[.slice a0 n0 c0, .slice a1 n1 c1, .bool f, .slice a3 n3 c3] 57)).alloc (.cells #[.slice none 0 0, .slice none 0 0, .bool false, .slice none 0 0] 57) = W at hA xr ⊢
  clear hW
  have zr := xr.lt
  refine (copyMem_any _ E _ _ _ _ _ _ _ _ _ ss cs f bs (h0.below hA) (h1.below hA) (h3.below hA) hw).mono ?_
  intro e w1 hc
  obtain ⟨b0, b1, b3, e0, e1, e3, m1, m2, rfl, o3, o0, o1, r1, r2, r3, bb⟩ := copy_shapes hl0 hl1 hl3 hc
  clear hc
  have z1 := bb.size
  obtain ⟨hlk, _, hmk⟩ := row_length hk
  have hnk : nk ≤ 2097152 := by unfold wtWrS at hwk; omega
  have sW : w.heap.size + 2 ≤ W.heap.size := by omega
  have ba : Below w1.heap.size w1 (w1.alloc (.cells #[.slice b0 n0 e0, .slice none 0 0, .bool f, .slice b3 n3 e3] 57)) := (Below.refl _ _).alloc (Nat.le_refl _) _
  have yo := Box.new w1 57 #[.slice b0 n0 e0, .slice none 0 0, .bool f, .slice b3 n3 e3]
  have yr := (xr.below bb zr).below ba (by omega)
  have k0 := o0.below ba
  have k3 := o3.below ba
  have kb := hA.trans ((bb.mono (by omega : w.heap.size ≤ W.heap.size)).trans (ba.mono (by omega)))
  have zo := yo.lt
  clear o0 o1 o3
  have YO := hidden yo
  have YR := hidden yr
  have K0 := hidden k0
  have K3 := hidden k3
  have KB := hidden kb
  clear yo yr k0 k3 xr
  go_wp2_with fail
  generalize w1.alloc (.cells #[.slice b0 n0 e0, .slice none 0 0, .bool f, .slice b3 n3 e3] 57) = w2 at ba YO YR K0 K3 KB kb zo ⊢
  have z2 := ba.size
  refine (newest_at w w2 kb Ek ak nk ck ks hk hnk hks).mono ?_
  rintro e w3 ⟨rfl, b3', D, hown, hL⟩
  have z3 := b3'.size
  have XO := hidden (YO.out.below b3' (by omega))
  have XR := hidden (YR.out.below b3' (by omega))
  have L0 := hidden (K0.out.below b3')
  have L3 := hidden (K3.out.below b3')
  have LB := hidden (KB.out.trans (b3'.mono (by omega)))
  have HOW := hidden hown
  have HL := hidden hL
  clear YO YR K0 K3 KB kb b3' hown hL ba
  have hgs : ∃ gS, (n0 = 0 ∨ b0 = some ⟨gS, 0, none⟩) ∧ m1 ≤ gS ∧ gS < w3.heap.size ∧ gS ≠ w1.heap.size := by
    rcases L0.out.rowShape with h | ⟨g, rfl⟩
    · exact ⟨w2.heap.size, .inl h, by omega, HOW.out.lt, by omega⟩
    · obtain ⟨fq, mq, rq⟩ := L0.out.mine
      have hgm := (row_parts mq).1
      have := rq g hgm
      exact ⟨g, .inr rfl, by omega, by omega, by omega⟩
  obtain ⟨gS, hg0, hg1, hg2, hg3⟩ := hgs
  obtain ⟨fpS0, mS0, rS0⟩ := L0.out.mine
  have MS0 := hidden mS0
  have RS0 := hidden rS0
  clear mS0 rS0
  obtain ⟨x0, x1, x2, x3⟩ := XO.out.cells4
  go_wp2
  clear x0 x1 x2 x3
  have hB3 := HOW.out.lt
  go_loopw [7] (fun i wr => ∃ (j : Nat) (Dm : DataW Value) (fpS : List Nat), j ≤ n0 ∧ i = .int .i64 j ∧ Turned [gS, w2.heap.size] w3 wr ∧ tIntSS.Mine wr [.slice b0 n0 e0] (partD ss ks j) fpS ∧ (∀ b ∈ fpS, m1 ≤ b ∧ (b < m2 ∨ w3.heap.size ≤ b)) ∧ wr.ownsMap Try.prog 3 heldV w2.heap.size nk Dm ∧ RestOk w ks j Dm) (fun i _ => n0 - (intOf i).toNat)
  case atStart => exact ⟨0, D, fpS0, Nat.zero_le _, rfl, Turned.refl _ _, by rw [partD_zero]; exact MS0.out, fun b hb => by have := RS0.out b hb; omega, HOW.out, HL.out.rest⟩
  case round =>
    obtain ⟨j, Dm, fpS, hj, rfl, tn, hS, hfp, how, hR⟩ := hrel
    have hs := tn.size
    have xo := XO.out.turned tn (by simp; omega)
    obtain ⟨q0, q1, q2, q3⟩ := xo.cells4
    have hlen := how.len Try.underlying111 3
    have hszn := how.size_le
    generalize hsz : Maps.size Dm = sz at hlen hszn
    have HSZ := hidden hsz
    clear hsz
    by_cases hjn : j < n0
    · have k1 : (0 : Int) ≤ (j : Int) := by omega
      have k2 : (j : Int) < (n0 : Int) := by omega
      by_cases hpos : 0 < sz
      · have k5 : (0 : Int) < (sz : Int) := by omega
        have HKEY := hidden (key_int (q := (j : Int)) (by omega) (by omega))
        have HOWR := hidden how
        have HRR := hidden hR
        have HFP := hidden hfp
        have HSS := hidden hS
        have TN := hidden tn
        have XOR := hidden xo
        clear how hR hfp hS tn xo
        cases hlw : lastW ks (j : Int) with
        | none =>
          have HN := hidden ((HRR.out j (Nat.le_refl _)).1 hlw)
          have HP := hidden (partD_none (ss := ss) hlw)
          have MA := hidden (HSS.out.alloc (.cells #[.int .i64 0, .slice none 0 0] 100))
          have TA := hidden (TN.out.alloc (.cells #[.int .i64 0, .slice none 0 0] 100))
          have OA := hidden (HOWR.out.alloc (.cells #[.int .i64 0, .slice none 0 0] 100))
          clear hlw
          go_wp2_with (at_lookup; refine look_away rfl _ _ rfl w2.heap.size nk Dm (j : Int) rfl HOWR.out rfl HKEY.out HN.out ?_)
          go_roundw
          case rel => exact ⟨j + 1, Dm, fpS, by omega, by go_num, TA.out, by rw [HP.out]; exact MA.out, HFP.out, OA.out, HRR.out.next⟩
          case measure => simp [intOf]; omega
        | some zs =>
          obtain ⟨hh1, la, lc, hh2, hh3⟩ := (HRR.out j (Nat.le_refl _)).2 zs hlw
          have H1 := hidden hh1
          have H2 := hidden hh2
          have HP := hidden (partD_some (ss := ss) (by omega) hlw)
          have hzl : zs.length ≤ 2097152 := lastW_le hwk hlw
          rcases hg0 with hg0 | hg0
          · omega
          subst hg0
          have bA : Below wr.heap.size wr (wr.alloc (.cells #[.int .i64 (j : Int), .slice la zs.length lc] 100)) := (Below.refl _ _).alloc (Nat.le_refl _) _
          have zA : wr.heap.size < (wr.alloc (.cells #[.int .i64 (j : Int), .slice la zs.length lc] 100)).heap.size := by simp
          have XW := hidden (Box.new wr 100 #[.int .i64 (j : Int), .slice la zs.length lc])
          have XOA := hidden (XOR.out.alloc (.cells #[.int .i64 (j : Int), .slice la zs.length lc] 100))
          have MA := hidden (HSS.out.alloc (.cells #[.int .i64 (j : Int), .slice la zs.length lc] 100))
          have TA := hidden (TN.out.alloc (.cells #[.int .i64 (j : Int), .slice la zs.length lc] 100))
          have OA := hidden (HOWR.out.alloc (.cells #[.int .i64 (j : Int), .slice la zs.length lc] 100))
          have RD := hidden (hh3.below (LB.out.trans ((TN.out.below (N := w.heap.size) (by omega) (by simp; omega)).trans (bA.mono (by omega)))))
          clear hlw hh1 hh2 hh3 bA
          go_wp2_with (at_lookup; refine look_here rfl _ _ rfl w2.heap.size nk Dm (j : Int) (.agg #[.int .i64 (j : Int), .slice la zs.length lc]) rfl HOWR.out rfl HKEY.out H1.out H2.out ?_)
          generalize wr.alloc (.cells #[.int .i64 (j : Int), .slice la zs.length lc] 100) = w8 at XW XOA MA TA OA RD zA ⊢
          have zT := TA.out.size
          have hSc : ∀ w', Box w' w1.heap.size 57 #[.slice (some ⟨gS, 0, none⟩) n0 e0, .slice none 0 0, .bool f, .slice b3 n3 e3] → Box w' wr.heap.size 100 #[.int .i64 (j : Int), .slice la zs.length lc] → w'.cell? ⟨w1.heap.size, 0, none⟩ = some (.slice (some ⟨gS, 0, none⟩) n0 e0) ∧ w'.cell? ⟨wr.heap.size, 1, none⟩ = some (.slice la zs.length lc) := fun w' e1 e2 => ⟨e1.cell 0, e2.cell 1⟩
          have hSd : ∀ w', Box w' w1.heap.size 57 #[.slice (some ⟨gS, 0, none⟩) n0 e0, .slice none 0 0, .bool f, .slice b3 n3 e3] → Box w' wr.heap.size 100 #[.int .i64 (j : Int), .slice la zs.length lc] → w'.drew.cell? ⟨w1.heap.size, 0, none⟩ = some (.slice (some ⟨gS, 0, none⟩) n0 e0) ∧ w'.drew.cell? ⟨wr.heap.size, 1, none⟩ = some (.slice la zs.length lc) := hSc
          have nO : Hid (w1.heap.size ≠ gS) := by unfold Hid; omega
          have nW : Hid (wr.heap.size ≠ gS) := by unfold Hid; omega
          go_region_held3 (fun w' => w'.cell? ⟨w1.heap.size, 0, none⟩ = some (.slice (some ⟨gS, 0, none⟩) n0 e0) ∧ w'.cell? ⟨wr.heap.size, 1, none⟩ = some (.slice la zs.length lc))
            (first | (with_reducible exact hSd w8 XOA.out XW.out) | (with_reducible exact hSc wc XOC.out XWC.out) | (with_reducible exact hSc _ (XOC.out.other nO.out _ _) (XWC.out.other nW.out _ _)) | go_keep)
            (first
              | (go_at_call 70; refine (copyWords_any _ _ _ _ zs (by exact RD.out.drew) (by omega)).mono ?_; rintro e wc ⟨ac, cc, rfl, oc, hbc⟩; have hbc' : Below w8.heap.size w8 wc := (by exact (Below.refl w8.heap.size w8).drew.trans hbc); have XOC := hidden (XOA.out.below hbc' (by omega)); have XWC := hidden (XW.out.below hbc' (by omega)); have mc := MA.out.below hbc'; have hlt := MA.out.lt; obtain ⟨fpx, mx, rx⟩ := Ty.Own.mine (lo := w8.heap.size) oc; obtain ⟨⟨old, cOld⟩, fz, hgm, fpA, mA, rA⟩ := row_set1 (j := j) rfl mc hjn mx (fun b hb hb' => by have h1 := hlt b hb'; have h2 := rx b hb; omega); have MX := hidden mA; have RA := hidden rA; have RX := hidden rx; have HBC := hidden hbc'; have HGM := hidden hgm; clear mc hlt mx rx oc hbc hbc' mA rA hgm))
          have zc := HBC.out.size
          have OD := hidden ((OA.out.kept (Below.grows HBC.out) (by simp)).setCell (a := ⟨gS, j, none⟩) (by simp only; have h1 := HFP.out gS HGM.out; omega) (.slice ac zs.length cc))
          have hfA : ∀ b ∈ fpA, m1 ≤ b ∧ (b < m2 ∨ w3.heap.size ≤ b) := fun b hb => by
            rcases RA.out b hb with h | h
            · exact HFP.out b h
            · have := RX.out b h
              omega
          have TD := hidden ((TA.out.trans (Turned.ofBelow HBC.out _)).trans (Turned.setCell (w := wc) (g := gS) (j := j) (.slice ac zs.length cc) (List.mem_cons_self : gS ∈ [gS, w2.heap.size])))
          have HFA := hidden hfA
          clear hfA XOC XWC XOA XW nO nW hSc hSd RA RX HBC MA TA OA RD cOld fz H1 H2
          go_wp2_with (at_delete; refine wpList_delete_own _ rfl _ _ 111 3 rfl 100 lawInt Try.underlying111 heldV w2.heap.size nk Dm rfl OD.out _ _ rfl HKEY.out ?_; intro wD hownD hturnD; have HOD := hidden hownD; have HTD := hidden hturnD.grown; clear hownD hturnD)
          have tD : Turned [w2.heap.size] (wc.setCell ⟨gS, j, none⟩ (.slice ac zs.length cc)) wD := ⟨HTD.out.os, HTD.out.tape, HTD.out.output, HTD.out.size, fun k hk hf => HTD.out.block k hk (by simp at hf ⊢; exact hf)⟩
          have TF := hidden (TD.out.trans (tD.mono (fun b hb => List.mem_cons_of_mem _ hb)))
          have MF := hidden (MX.out.kept tD (fun b hb hb' => by have h1 := HFA.out b hb; simp at hb'; omega))
          clear tD TD MX HTD OD
          go_roundw
          case rel => exact ⟨j + 1, Dm.del (.int .i64 (j : Int)), fpA, by omega, by go_num, TF.out, by rw [HP.out]; exact MF.out, HFA.out, HOD.out, HRR.out.del⟩
          case measure => simp [intOf]; omega
      · have HD : Hid (partD ss ks j = flushD ss ks) := partD_all (fun k hk hkl => hR.empty how.isMap (by have := HSZ.out; omega) k hk)
        have k5 : ¬ (0 : Int) < (sz : Int) := by omega
        have K0' := hS.own (lo := m1) (hi := wr.heap.size) (fun b hb => by have h1 := hfp b hb; have h2 := hS.lt b hb; omega)
        have xr := XR.out.turned tn (by simp; omega)
        obtain ⟨p0, p1, p2, p3⟩ := xr.cells4
        have fz := xr.frozen
        have K3' := L3.out.but (tn.but (lo := m1) (hi := w3.heap.size) (by simp; omega)) (.inl (Nat.le_refl _))
        have KB' := LB.out.trans (tn.below (N := w.heap.size) (by omega) (by simp; omega))
        have hbt : But (w.heap.size + 1) (w.heap.size + 2) wr ((((wr.setCell ⟨w.heap.size + 1, 0, none⟩ (.slice b0 n0 e0)).setCell ⟨w.heap.size + 1, 1, none⟩ (.slice none 0 0)).setCell ⟨w.heap.size + 1, 2, none⟩ (.bool f)).setCell ⟨w.heap.size + 1, 3, none⟩ (.slice b3 n3 e3)) :=
          (((But.setCell (by omega) (by omega) _).trans (But.setCell (by omega) (by omega) _)).trans (But.setCell (by omega) (by omega) _)).trans (But.setCell (by omega) (by omega) _)
        have z9 := hbt.size
        have FIN : Hid ((tMem 100).Own ((((wr.setCell ⟨w.heap.size + 1, 0, none⟩ (.slice b0 n0 e0)).setCell ⟨w.heap.size + 1, 1, none⟩ (.slice none 0 0)).setCell ⟨w.heap.size + 1, 2, none⟩ (.bool f)).setCell ⟨w.heap.size + 1, 3, none⟩ (.slice b3 n3 e3)) w.heap.size ((((wr.setCell ⟨w.heap.size + 1, 0, none⟩ (.slice b0 n0 e0)).setCell ⟨w.heap.size + 1, 1, none⟩ (.slice none 0 0)).setCell ⟨w.heap.size + 1, 2, none⟩ (.bool f)).setCell ⟨w.heap.size + 1, 3, none⟩ (.slice b3 n3 e3)).heap.size [.slice b0 n0 e0, .slice none 0 0, .bool f, .slice b3 n3 e3] (partD ss ks j, [], f, bs)) := (mem_own3 (K0'.but hbt (by omega)) (nil_own _ wr.heap.size wr.heap.size) (K3'.but hbt (by omega)) (by omega) (by omega) (by omega) (by omega) (by omega) (by omega))
        have FB := hidden (Below.andBut KB' hbt (by omega))
        clear K0' K3' KB' xr hS tn how hR hfp hbt xo
        go_wp2
        refine bodyPost_ret (v := .agg #[.slice b0 n0 e0, .slice none 0 0, .bool f, .slice b3 n3 e3]) (by simp [results, Try.results73, go_sem, p0, p1, p2, p3]) rfl ?_
        exact ⟨_, _, _, rfl, by rw [← HD.out]; exact FIN.out, FB.out⟩
    · have e : n0 = j := by omega
      subst e
      have HD : Hid (partD ss ks n0 = flushD ss ks) := partD_all (fun k hk hkl => by omega)
      have K0' := hS.own (lo := m1) (hi := wr.heap.size) (fun b hb => by have h1 := hfp b hb; have h2 := hS.lt b hb; omega)
      have xr := XR.out.turned tn (by simp; omega)
      obtain ⟨p0, p1, p2, p3⟩ := xr.cells4
      have fz := xr.frozen
      have K3' := L3.out.but (tn.but (lo := m1) (hi := w3.heap.size) (by simp; omega)) (.inl (Nat.le_refl _))
      have KB' := LB.out.trans (tn.below (N := w.heap.size) (by omega) (by simp; omega))
      have hbt : But (w.heap.size + 1) (w.heap.size + 2) wr ((((wr.setCell ⟨w.heap.size + 1, 0, none⟩ (.slice b0 n0 e0)).setCell ⟨w.heap.size + 1, 1, none⟩ (.slice none 0 0)).setCell ⟨w.heap.size + 1, 2, none⟩ (.bool f)).setCell ⟨w.heap.size + 1, 3, none⟩ (.slice b3 n3 e3)) :=
        (((But.setCell (by omega) (by omega) _).trans (But.setCell (by omega) (by omega) _)).trans (But.setCell (by omega) (by omega) _)).trans (But.setCell (by omega) (by omega) _)
      have z9 := hbt.size
      have FIN : Hid ((tMem 100).Own ((((wr.setCell ⟨w.heap.size + 1, 0, none⟩ (.slice b0 n0 e0)).setCell ⟨w.heap.size + 1, 1, none⟩ (.slice none 0 0)).setCell ⟨w.heap.size + 1, 2, none⟩ (.bool f)).setCell ⟨w.heap.size + 1, 3, none⟩ (.slice b3 n3 e3)) w.heap.size ((((wr.setCell ⟨w.heap.size + 1, 0, none⟩ (.slice b0 n0 e0)).setCell ⟨w.heap.size + 1, 1, none⟩ (.slice none 0 0)).setCell ⟨w.heap.size + 1, 2, none⟩ (.bool f)).setCell ⟨w.heap.size + 1, 3, none⟩ (.slice b3 n3 e3)).heap.size [.slice b0 n0 e0, .slice none 0 0, .bool f, .slice b3 n3 e3] (partD ss ks n0, [], f, bs)) := (mem_own3 (K0'.but hbt (by omega)) (nil_own _ wr.heap.size wr.heap.size) (K3'.but hbt (by omega)) (by omega) (by omega) (by omega) (by omega) (by omega) (by omega))
      have FB := hidden (Below.andBut KB' hbt (by omega))
      clear K0' K3' KB' xr hS tn how hR hfp hbt xo
      go_wp2
      refine bodyPost_ret (v := .agg #[.slice b0 n0 e0, .slice none 0 0, .bool f, .slice b3 n3 e3]) (by simp [results, Try.results73, go_sem, p0, p1, p2, p3]) rfl ?_
      exact ⟨_, _, _, rfl, by rw [← HD.out]; exact FIN.out, FB.out⟩


end Go.Proofs.Ytgjldmjlbhkgbaa

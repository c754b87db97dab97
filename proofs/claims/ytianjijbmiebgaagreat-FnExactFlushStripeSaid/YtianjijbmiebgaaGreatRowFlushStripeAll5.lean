/-
 Plain lemmas on one store into a row of a call's own, by its blocks, and on a row's elements with theirs. No condition; nothing of the program is named here.
-/
import Derived.Test.YtianjijbmiebgaaGreatKit
import Derived.OrdersHeld
import Derived.RegionTactic
import Derived.Test.YtianjijbmiebgaaGreatWalkInts
import Derived.Test.YtianjijbmiebgaaGreatWalkIn
import Derived.Test.YtianjijbmiebgaaGreatData
import Derived.Test.YtianjijbmiebgaaGreatWalkArr
import Derived.Test.YtianjijbmiebgaaGreatFrame

set_option maxRecDepth 100000
set_option maxHeartbeats 8000000
set_option linter.unusedSimpArgs false

namespace Go.Proofs.YtianjijbmiebgaaGreat
open Go.RowKit

def Upto (P : Program) (ops : Array Oper) (Q : Exit -> Act -> World -> Prop) (S : World -> Prop) (k : Nat) : Nat -> Array Bool -> Act -> World -> Prop
 | 0, l, a, w => Region.ready .any ops l = [] /\ Q .normal a w
 | n + 1, l, a, w => (Region.ready .any ops l = [] -> Q .normal a w) /\ ∀ j ∈ Region.ready .any ops l, wpOp P ops Q j (fun a' w' => (j ≠ k -> S w') /\ Upto P ops Q S k n (l.setIfInBounds j true) a' w') a w

section
variable {P : Program} {ops : Array Oper} {Q : Exit -> Act -> World -> Prop} {S : World -> Prop} {k : Nat}

theorem Upto.any : ∀ (n : Nat) (l : Array Bool) (a : Act) (w : World), Upto P ops Q S k n l a w -> wpAny P .any ops Q n l a w
 | 0, _, _, _, h => h
 | n + 1, _, _, _, h => ⟨h.1, fun j hj => wpOp_mono (fun a' w' h' => Upto.any n _ a' w' h'.2) (h.2 j hj)⟩

theorem Upto.start {id : Nat} {a : Act} {w : World} (hm : P.follows .mixedOrders = true) (h : Upto P ops Q S k ops.size (Array.replicate ops.size false) a w.drew) : (Code.region id ops true).wp P Q a w :=
 wp_region_any hm (Upto.any _ _ _ _ h)

theorem unlisted {l : Array Bool} {i : Nat} (h0 : l.getD i true = false) (h1 : l.getD i false = true) : False := by
 by_cases hi : i < l.size
 . simp [hi] at h0 h1
   rw [h0] at h1
   cases h1
 . simp [Array.getElem?_eq_none (Nat.le_of_not_lt hi)] at h1

theorem Upto.first {i : Nat} {oi ok : Oper} {v : Value} (hi : ops[i]? = some oi) (hk : ops[k]? = some ok) (hki : ∃ e ∈ ok.after, Region.binds .any e = true /\ e.on = i)
 (hsel : ∀ (j : Nat) (o : Oper) cs b, ops[j]? = some o -> o.op ≠ .select cs b) (hQ : ∀ c a w, Q (.panic c) (a.put oi.dst v) w -> Q (.panic c) a w) (n : Nat) :
 ∀ (l : Array Bool) (a : Act) (w : World),
  (∀ j oj, ops[j]? = some oj -> j ≠ i -> l.getD j true = false -> (∀ e ∈ oj.after, Region.binds .any e = true -> e.on ≠ i) -> oi.apart ops oj = true) ->
  i ∈ Region.ready .any ops l -> YieldsIf P ops S oi v a -> S w -> Upto P ops Q S k n (l.setIfInBounds i true) (a.put oi.dst v) w -> Upto P ops Q S k (n + 1) l a w := by
 induction n with
 | zero =>
  intro l a w _ hr hy hS H
  constructor
  . intro h
    rw [h] at hr
    simp at hr
  . intro j hj
    by_cases hji : j = i
    . rw [hji]
      exact hy.wpOp hi hS ⟨fun _ => hS, H⟩
    . have h2 := ready_mono (i := i) hj hji
      rw [H.1] at h2
      simp at h2
 | succ n ih =>
  intro l a w hfree hr hy hS H
  constructor
  . intro h
    rw [h] at hr
    simp at hr
  . intro j hj
    by_cases hji : j = i
    . rw [hji]
      exact hy.wpOp hi hS ⟨fun _ => hS, H⟩
    . obtain ⟨hju, oj, hoj, hall⟩ := mem_ready.1 hj
      have hiu := (mem_ready.1 hr).1
      have hno : ∀ e ∈ oj.after, Region.binds .any e = true -> e.on ≠ i := fun e he hb hon => unlisted hiu (hon ▸ hall e he hb)
      have hjk : j ≠ k := by
       intro hjk
       rw [hjk, hk] at hoj
       obtain ⟨e, he, hb, hon⟩ := hki
       cases hoj
       exact hno e he hb hon
      have h1 := H.2 j (ready_mono hj hji)
      have h2 := wpOp_putIf hoj (hfree j oj hoj hji hju hno) (fun cs b => hsel i oi cs b hi) (fun cs b => hsel j oj cs b hoj) hQ hy h1
      refine wpOp_mono ?_ h2
      intro a' w' h3
      have hS' := h3.2.1 hjk
      refine ⟨fun _ => hS', ih _ a' w' ?_ (ready_mono hr (Ne.symm hji)) h3.1 hS' ?_⟩
      . intro m om hm hmi hun hnm
        refine hfree m om hm hmi ?_ hnm
        by_cases hjm : j = m
        . rw [← hjm]
          exact hju
        . rw [getD_set_ne true hjm] at hun
          exact hun
      . rw [Array.setIfInBounds_comm _ _ hji]
        exact h3.2.2

theorem op_at {i : Nat} {o : Oper} {tl : List Oper} (h : ops.toList.drop i = o :: tl) : ops[i]? = some o := by
 have h1 : (ops.toList.drop i)[0]? = some o := by rw [h]; rfl
 rw [List.getElem?_drop] at h1
 simpa using h1

theorem Upto.take {i : Nat} {oi : Oper} {v : Value} {n : Nat} {l : Array Bool} {a : Act} {w : World} {tl : List Oper} (hi' : ops.toList.drop i = oi :: tl)
 (hki : ((ops[k]?).map fun o => o.after.any fun e => Region.binds .any e && e.on == i) = some true) (hs : Region.noSelect ops = true) (hf : Region.free .any ops l i = true) (hr : (Region.ready .any ops l).contains i = true)
 (hQ : ∀ c a w, Q (.panic c) (a.put oi.dst v) w -> Q (.panic c) a w) (hy : YieldsIf P ops S oi v a) (hS : S w) (h : Upto P ops Q S k n (l.setIfInBounds i true) (a.put oi.dst v) w) : Upto P ops Q S k (n + 1) l a w := by
 have hi := op_at hi'
 cases hk : ops[k]? with
 | none => rw [hk] at hki; cases hki
 | some ok =>
  rw [hk] at hki
  simp only [Option.map_some, Option.some.injEq, Array.any_eq_true', Bool.and_eq_true, beq_iff_eq] at hki
  exact Upto.first hi hk hki (Region.noSelect_spec hs) hQ n l a w (Region.free_spec hi hf) (by simpa using hr) hy hS h

theorem Upto.one {i : Nat} {o : Oper} {n : Nat} {l : Array Bool} {a : Act} {w : World} {tl : List Oper} (hr : Region.ready .any ops l = [i]) (ho : ops.toList.drop i = o :: tl)
 (h : ∀ K' : Act -> World -> Prop, Shut (∀ a w, (i ≠ k -> S w) -> Upto P ops Q S k n (l.setIfInBounds i true) a w -> K' a w) -> if Region.wanted o (yielded ops a.tmps) = true then Oper.wp P o a w K' Q else K' (a.put o.dst undef) w) : Upto P ops Q S k (n + 1) l a w := by
 constructor
 . intro h0
   rw [hr] at h0
   simp at h0
 . intro j hj
   rw [hr] at hj
   simp at hj
   rw [hj]
   exact wpOp_step (op_at ho) (fun K' hK => h K' (fun a w hS hW => hK a w ⟨hS, hW⟩))

theorem Upto.done {l : Array Bool} {a : Act} {w : World} (hr : Region.ready .any ops l = []) (h : Q .normal a w) : ∀ n, Upto P ops Q S k n l a w
 | 0 => ⟨hr, h⟩
 | _ + 1 => ⟨fun _ => h, by rw [hr]; simp⟩

end

variable {P : Program} {ops : Array Oper} {Q : Exit -> Act -> World -> Prop} {S : World -> Prop}

theorem held_take {i : Nat} {oi : Oper} {v : Value} {fuel : Nat} {l : Array Bool} {a : Act} {w : World} {tl : List Oper} (hi : ops.toList.drop i = oi :: tl)
 (hs : Region.noSelect ops = true) (hf : Region.free .any ops l i = true) (hr : (Region.ready .any ops l).contains i = true)
 (hQ : ∀ c a w, Q (.panic c) (a.put oi.dst v) w -> Q (.panic c) a w) (hw : Region.wanted oi (yielded ops a.tmps) = true) (hy : ∀ w, S w -> (execOp a.eval oi).run P w = .ok (.value v) w) (hS : S w)
 (h : wpAnyH P .any ops Q S fuel (l.setIfInBounds i true) (a.put oi.dst v) w) : wpAnyH P .any ops Q S (fuel + 1) l a w :=
 wpAnyH_take (op_at hi) hs hf hr hQ (Or.inl ⟨hw, hy⟩) hS h
theorem held_pass {i : Nat} {oi : Oper} {fuel : Nat} {l : Array Bool} {a : Act} {w : World} {tl : List Oper} (hi : ops.toList.drop i = oi :: tl)
 (hs : Region.noSelect ops = true) (hf : Region.free .any ops l i = true) (hr : (Region.ready .any ops l).contains i = true)
 (hQ : ∀ c a w, Q (.panic c) (a.put oi.dst undef) w -> Q (.panic c) a w) (hw : Region.wanted oi (yielded ops a.tmps) = false) (hS : S w)
 (h : wpAnyH P .any ops Q S fuel (l.setIfInBounds i true) (a.put oi.dst undef) w) : wpAnyH P .any ops Q S (fuel + 1) l a w :=
 wpAnyH_take (op_at hi) hs hf hr hQ (Or.inr ⟨hw, rfl⟩) hS h
theorem held_one {i : Nat} {o : Oper} {fuel : Nat} {l : Array Bool} {a : Act} {w : World} {tl : List Oper} (hr : Region.ready .any ops l = [i]) (ho : ops.toList.drop i = o :: tl) (hw : Region.wanted o (yielded ops a.tmps) = true)
 (h : ∀ K' : Act -> World -> Prop, Shut (∀ a w, S w -> (S w -> wpAnyH P .any ops Q S fuel (l.setIfInBounds i true) a w) -> K' a w) -> Oper.wp P o a w K' Q) : wpAnyH P .any ops Q S (fuel + 1) l a w :=
 wpAnyH_ready hr (by simp) (AllReadyH.cons (op_at ho) (fun K' hK => by rw [if_pos hw]; exact h K' hK) AllReadyH.nil)
theorem held_t (i : Nat) {oi : Oper} {v : Value} {fuel : Nat} {l : Array Bool} {a a' : Act} {w : World} {tl : List Oper} (hS : S w) (h : wpAnyH P .any ops Q S fuel (l.setIfInBounds i true) a' w) (hi : ops.toList.drop i = oi :: tl := by rfl)
 (hs : Region.noSelect ops = true := by kernel_rfl) (hf : Region.free .any ops l i = true := by kernel_rfl) (hr : (Region.ready .any ops l).contains i = true := by kernel_rfl)
 (hQ : ∀ c a w, Q (.panic c) (a.put oi.dst v) w -> Q (.panic c) a w := by exact fun _ _ _ h => h) (hw : Region.wanted oi (yielded ops a.tmps) = true := by kernel_rfl)
 (hy : ∀ w, S w -> (execOp a.eval oi).run P w = .ok (.value v) w := by (intro w hSw; (try dsimp only at hSw); go_split_ands; go_simp; first | done | with_reducible rfl))
 (ha : a.put oi.dst v = a' := by (simp only [Act.put, List.setIfInBounds_toArray, List.set_cons_zero, List.set_cons_succ]; first | done | rfl)) : wpAnyH P .any ops Q S (fuel + 1) l a w := held_take hi hs hf hr hQ hw hy hS (ha ▸ h)
theorem held_none {i : Nat} {o : Oper} {fuel : Nat} {l : Array Bool} {a : Act} {w : World} {tl : List Oper} (hr : Region.ready .any ops l = [i]) (ho : ops.toList.drop i = o :: tl) (hw : Region.wanted o (yielded ops a.tmps) = false) (hS : S w)
 (h : wpAnyH P .any ops Q S fuel (l.setIfInBounds i true) (a.put o.dst undef) w) : wpAnyH P .any ops Q S (fuel + 1) l a w :=
 wpAnyH_ready hr (by simp) (AllReadyH.cons (op_at ho) (fun K' hK => by rw [if_neg (by rw [hw]; simp)]; exact hK _ _ hS (fun _ => h)) AllReadyH.nil)

theorem Upto.t {k : Nat} (i : Nat) {oi : Oper} {v : Value} {n : Nat} {l : Array Bool} {a a' : Act} {w : World} {tl : List Oper} (hS : S w) (h : Upto P ops Q S k n (l.setIfInBounds i true) a' w) (hi : ops.toList.drop i = oi :: tl := by rfl)
 (hki : ((ops[k]?).map fun o => o.after.any fun e => Region.binds .any e && e.on == i) = some true := by kernel_rfl) (hs : Region.noSelect ops = true := by kernel_rfl) (hf : Region.free .any ops l i = true := by kernel_rfl) (hr : (Region.ready .any ops l).contains i = true := by kernel_rfl)
 (hQ : ∀ c a w, Q (.panic c) (a.put oi.dst v) w -> Q (.panic c) a w := by exact fun _ _ _ h => h) (hw : Region.wanted oi (yielded ops a.tmps) = true := by rfl) (hy : ∀ w, S w -> (execOp a.eval oi).run P w = .ok (.value v) w := by (intro w hSw; (try dsimp only at hSw); go_split_ands; go_simp; first | done | with_reducible rfl)) (ha : a.put oi.dst v = a' := by (simp only [Act.put, List.setIfInBounds_toArray, List.set_cons_zero, List.set_cons_succ]; first | done | rfl)) : Upto P ops Q S k (n + 1) l a w :=
 Upto.take hi hki hs hf hr hQ (Or.inl ⟨hw, hy⟩) hS (ha ▸ h)
theorem held_p (i : Nat) {oi : Oper} {fuel : Nat} {l : Array Bool} {a a' : Act} {w : World} {tl : List Oper} (hS : S w) (h : wpAnyH P .any ops Q S fuel (l.setIfInBounds i true) a' w) (hi : ops.toList.drop i = oi :: tl := by rfl)
 (hs : Region.noSelect ops = true := by kernel_rfl) (hf : Region.free .any ops l i = true := by kernel_rfl) (hr : (Region.ready .any ops l).contains i = true := by kernel_rfl)
 (hQ : ∀ c a w, Q (.panic c) (a.put oi.dst undef) w -> Q (.panic c) a w := by exact fun _ _ _ h => h) (hw : Region.wanted oi (yielded ops a.tmps) = false := by kernel_rfl)
 (ha : a.put oi.dst undef = a' := by (simp only [Act.put, List.setIfInBounds_toArray, List.set_cons_zero, List.set_cons_succ]; first | done | rfl)) : wpAnyH P .any ops Q S (fuel + 1) l a w := held_pass hi hs hf hr hQ hw hS (ha ▸ h)

def isW (n : Int) : Bool := decide (0 <= n) && decide (n <= 65535)
def allW (l : List Int) : Bool := l.all isW
def secB (l : List Int) : Bool := decide (l.length <= 12) && allW l

theorem allW_step {zs : List Int} {j : Nat} {x : Int} (h : j < zs.length) (hx : zs.getD j 0 = x) :
 (isW x = true -> allW (zs.take j) = true -> allW (zs.take (j + 1)) = true) /\ (isW x = false -> allW zs = false) := by
 have e : zs[j] = x := by rw [← hx]; simp [List.getElem?_eq_getElem h]
 refine ⟨fun h1 h2 => ?_, fun h1 => ?_⟩
 . unfold allW at *
   rw [List.take_succ_eq_append_getElem h, List.all_append, h2, e]
   simp [h1]
 . unfold allW
   rw [List.all_eq_false]
   exact ⟨x, by rw [← e]; exact List.getElem_mem h, by simp [h1]⟩

theorem isWord_any (n : Int) (w : World) : Calls Tryz.prog 78 #[.int .i64 n] w fun e w' => e = .returned (.bool (isW n)) /\ w' = w := by
 unfold isW
 by_cases h0 : 0 <= n
 . by_cases h1 : n <= 65535
   . go_enter Tryz.func78, Tryz.ntmps78
     go_wp2
     go_ret
     exact ⟨ret_bool (by simp [h0, h1]), rfl⟩
   . go_enter Tryz.func78, Tryz.ntmps78
     go_wp2
     go_ret
     exact ⟨ret_bool (by symm; simp; omega), rfl⟩
 . go_enter Tryz.func78, Tryz.ntmps78
   go_wp2
   go_ret
   exact ⟨ret_bool (by symm; simp; omega), rfl⟩

theorem l1Word_any (n : Int) (w : World) : Calls Tryz.prog 80 #[.int .i64 n] w fun e w' => e = .returned (.bool (isW n)) /\ w' = w := by
 go_enter Tryz.func80, Tryz.ntmps80
 go_wp2_with (go_at_call 85; refine (l1In_any _ _ _ _).mono ?_; rintro e w' ⟨rfl, rfl⟩)
 go_ret
 exact ⟨rfl, rfl⟩

theorem l1Words_any (w : World) (a : Option Addr) (len cap : Nat) (zs : List Int) (hz : zs.length = len) (hr : Reads .i64 w a zs) (hlen : len <= 2097152) :
 Calls Tryz.prog 119 #[.slice a len cap] w fun e w' => e = .returned (.bool (allW zs)) /\ w' = w := by
 go_enter Tryz.func119, Tryz.ntmps119
 go_wp2
 go_loop [3] (fun i => ∃ j : Nat, j <= len /\ i = .int .i64 j /\ allW (zs.take j) = true) (fun i => len - (intOf i).toNat)
 case atStart => exact ⟨0, Nat.zero_le _, rfl, rfl⟩
 case round =>
  obtain ⟨j, hj, rfl, ht⟩ := hrel
  by_cases hlt : j < len
  . rcases hr.cases with h0 | ⟨b, off, rfl, hbl, hc⟩
    . omega
    have hc1 := hc j (by omega)
    have hd := allW_step (zs := zs) (j := j) (by omega) rfl
    generalize zs.getD j 0 = x at hc1 hd
    have HT : Hid (allW (zs.take j) = true) := ht
    clear hc ht
    by_cases hx : isW x = true
    . have HD := hd.1 hx HT.out
      clear hd
      go_wp2_with (go_at_call 80; refine (l1Word_any _ _).mono ?_; rintro e w' ⟨rfl, rfl⟩)
      go_round
      case rel => exact ⟨j + 1, by omega, by go_num, HD⟩
      case measure => simp [intOf]; omega
    . have hx : isW x = false := by simpa using hx
      have HD := hd.2 hx
      clear hd
      go_wp2_with (go_at_call 80; refine (l1Word_any _ _).mono ?_; rintro e w' ⟨rfl, rfl⟩)
      go_ret
      exact ⟨ret_bool (by rw [HD]), rfl⟩
  . go_wp2
    go_ret
    have e : j = len := by omega
    subst e
    rw [List.take_of_length_le (by omega)] at ht
    exact ⟨ret_bool ht.symm, rfl⟩

theorem specSecOk_any (w : World) (a : Option Addr) (len cap : Nat) (zs : List Int) (hz : zs.length = len) (hr : Reads .i64 w a zs) (hlen : len <= 2097152) :
 Calls Tryz.prog 228 #[.slice a len cap] w fun e w' => e = .returned (.bool (secB zs)) /\ Same w w' := by
 by_cases h : len <= 12
 . go_enter Tryz.func228, Tryz.ntmps228
   go_wp2_with (go_at_call 119; refine (l1Words_any _ _ _ _ zs hz hr hlen).mono ?_; rintro e w' ⟨rfl, rfl⟩)
   go_ret
   exact ⟨ret_bool (by simp [secB, hz, h]), Same.refl _⟩
 . go_enter Tryz.func228, Tryz.ntmps228
   go_wp2
   go_ret
   exact ⟨ret_bool (by simp [secB, hz, h]), Same.refl _⟩

theorem implSecOk_any (w : World) (a : Option Addr) (len cap : Nat) (zs : List Int) (hz : zs.length = len) (hr : Reads .i64 w a zs) (hlen : len <= 2097152) :
 Calls Tryz.prog 109 #[.slice a len cap] w fun e w' => e = .returned (.bool (secB zs)) /\ Same w w' := by
 by_cases h : len <= 12
 . go_enter Tryz.func109, Tryz.ntmps109
   go_wp2
   go_loop [10] (fun i => ∃ j : Nat, j <= len /\ i = .int .i64 j /\ allW (zs.take j) = true) (fun i => len - (intOf i).toNat)
   case atStart => exact ⟨0, Nat.zero_le _, rfl, rfl⟩
   case round =>
    obtain ⟨j, hj, rfl, ht⟩ := hrel
    by_cases hlt : j < len
    . rcases hr.cases with h0 | ⟨b, off, rfl, hbl, hc⟩
      . omega
      have hc1 := hc j (by omega)
      have hd := allW_step (zs := zs) (j := j) (by omega) rfl
      generalize zs.getD j 0 = x at hc1 hd
      have HT : Hid (allW (zs.take j) = true) := ht
      clear hc ht
      by_cases hx : isW x = true
      . have HD := hd.1 hx HT.out
        clear hd
        go_wp2_with (go_at_call 78; refine (isWord_any _ _).mono ?_; rintro e w' ⟨rfl, rfl⟩)
        go_round
        case rel => exact ⟨j + 1, by omega, by go_num, HD⟩
        case measure => simp [intOf]; omega
      . have hx : isW x = false := by simpa using hx
        have HD := hd.2 hx
        clear hd
        go_wp2_with (go_at_call 78; refine (isWord_any _ _).mono ?_; rintro e w' ⟨rfl, rfl⟩)
        go_ret
        exact ⟨ret_bool (by simp [secB, HD]), Same.refl _⟩
    . go_wp2
      go_ret
      have e : j = len := by omega
      subst e
      rw [List.take_of_length_le (by omega)] at ht
      exact ⟨ret_bool (by simp [secB, hz, h, ht]), Same.refl _⟩
 . go_enter Tryz.func109, Tryz.ntmps109
   go_wp2
   go_ret
   exact ⟨ret_bool (by simp [secB, hz, h]), Same.refl _⟩

def wrB (n : Int) (x : Int × List Int) : Bool := inB x.1 0 (n - 1) && secB x.2
def badAt (n : Int) (bs : List Int) (i : Nat) : Bool := inB (bs.getD i 0) 0 (n - 1) && (decide (i = 0) || decide (bs.getD (i - 1) 0 < bs.getD i 0))
def badB (n : Int) (bs : List Int) : Bool := (List.range bs.length).all (badAt n bs)
def memB (ss : List (List Int)) (cs : List (Int × List Int)) (bs : List Int) : Bool :=
 ss.all secB && (cs.all (wrB ss.length) && (badB ss.length bs && (inB ss.length 1 20 && decide (cs.length <= 60))))

theorem all_step {α : Type} {p : α -> Bool} {l : List α} {j : Nat} {x : α} (h : l[j]? = some x) : (p x = true -> (l.take j).all p = true -> (l.take (j + 1)).all p = true) /\ (p x = false -> l.all p = false) := by
 have hj : j < l.length := (List.getElem?_eq_some_iff.1 h).1
 have e : l[j] = x := by rw [List.getElem?_eq_getElem hj] at h; simpa using h
 refine ⟨fun h1 h2 => ?_, fun h1 => ?_⟩
 . rw [List.take_succ_eq_append_getElem hj, List.all_append, h2, e]
   simp [h1]
 . rw [List.all_eq_false]
   exact ⟨x, by rw [← e]; exact List.getElem_mem hj, by simp [h1]⟩

theorem specMemOk_any (w : World) (E : TypeId) (a0 a1 a3 : Option Addr) (n0 c0 n1 c1 n3 c3 : Nat) (ss : List (List Int)) (cs : List (Int × List Int)) (f : Bool) (bs : List Int) (h0 : tIntSS.Rd w [.slice a0 n0 c0] ss) (h1 : (tWrS E).Rd w [.slice a1 n1 c1] cs) (h3 : tIntS.Rd w [.slice a3 n3 c3] bs) (hw : wtMem (ss, cs, f, bs) <= 2097152) :
 Calls Tryz.prog 184 #[.agg #[.slice a0 n0 c0, .slice a1 n1 c1, .bool f, .slice a3 n3 c3]] w fun e w' => e = .returned (.bool (memB ss cs bs)) /\ Below w.heap.size w w' := by
 obtain ⟨hl0, _, hm0⟩ := row_length h0
 obtain ⟨hl1, _, hm1⟩ := row_length h1
 obtain ⟨hl3, _, hm3⟩ := row_length h3
 have hw0 : wtIntSS ss <= 2097152 := by unfold wtMem at hw; simp only at hw; omega
 have hw1 : wtWrS cs <= 2097152 := by unfold wtMem at hw; simp only at hw; omega
 have hw3 : n3 <= 2097152 := by unfold wtMem at hw; simp only at hw; omega
 have hn0 : n0 <= 2097152 := by unfold wtIntSS at hw0; omega
 have hn1 : n1 <= 2097152 := by unfold wtWrS at hw1; omega
 have hA : Below w.heap.size w (w.alloc (.cells #[.slice a0 n0 c0, .slice a1 n1 c1, .bool f, .slice a3 n3 c3] 109)) := (Below.refl _ _).alloc (Nat.le_refl _) _
 have hcell : ∀ j v, (#[Value.slice a0 n0 c0, .slice a1 n1 c1, .bool f, .slice a3 n3 c3])[j]? = some v -> (w.alloc (.cells #[.slice a0 n0 c0, .slice a1 n1 c1, .bool f, .slice a3 n3 c3] 109)).cell? ⟨w.heap.size, j, none⟩ = some v := by
  intro j v hv
  rw [cell_of_row _ w.heap.size j _ _ (0, 0) (heap_alloc_new w _)]
  exact hv
 have k0 := hcell 0 _ rfl
 have k1 := hcell 1 _ rfl
 have k3 := hcell 3 _ rfl
 have g0 := h0.below hA
 have g1 := h1.below hA
 have g3 := h3.below hA
 have hz : w.heap.size < (w.alloc (.cells #[.slice a0 n0 c0, .slice a1 n1 c1, .bool f, .slice a3 n3 c3] 109)).heap.size := by simp
 go_enter Tryz.func184, Tryz.ntmps184
 go_wp2
 generalize hW : w.alloc (.cells #[.slice a0 n0 c0, .slice a1 n1 c1, .bool f, .slice a3 n3 c3] 109) = W at hA k0 k1 k3 g0 g1 g3 hz ⊢
 clear hW hcell h0 h1 h3
 go_loopw [4] (fun i wr => ∃ j : Nat, j <= n0 /\ i = .int .i64 j /\ (ss.take j).all secB = true /\ Same W wr) (fun i _ => n0 - (intOf i).toNat)
 case atStart => exact ⟨0, Nat.zero_le _, rfl, rfl, Same.refl _⟩
 case round =>
  obtain ⟨j, hj, rfl, ht, hs⟩ := hrel
  have q0 := (hs.cell _).trans k0
  by_cases hjn : j < n0
  . rcases rows_at rfl g0 with h0' | ⟨b, off, rfl, hbl, hcs⟩
    . omega
    have hdj : ss[j]? = some (ss[j]'(by omega)) := List.getElem?_eq_getElem (by omega)
    generalize ss[j]'(by omega) = x at hdj
    have hal := all_step (p := secB) hdj
    have hil := inner_le hdj
    obtain ⟨v, hv, hrv⟩ := hcs j x hdj
    obtain ⟨av, cv, rfl⟩ := row_shape hrv
    have q1 := (hs.cell ⟨b, off + j, none⟩).trans hv
    obtain ⟨r1, _, _, _⟩ := ints_rd (hrv.same hs)
    have HT := hidden ht
    clear hcs hdj hv hrv ht
    by_cases hx : secB x = true
    . have HD := hidden (hal.1 hx HT.out)
      clear hal
      go_wp2_with fail
      refine (specSecOk_any _ _ _ _ x rfl r1 (by omega)).mono ?_
      rintro e w1 ⟨rfl, hs1⟩
      go_wp2
      go_roundw
      case rel => exact ⟨j + 1, by omega, by go_num, HD.out, hs.trans hs1⟩
      case measure => simp [intOf]; omega
    . have hx : secB x = false := by simpa using hx
      have HN := hidden (hal.2 hx)
      clear hal
      go_wp2_with fail
      refine (specSecOk_any _ _ _ _ x rfl r1 (by omega)).mono ?_
      rintro e w1 ⟨rfl, hs1⟩
      go_wp2
      go_ret
      exact ⟨ret_bool (by unfold memB; rw [HN.out]; rfl), Below.andSame (Below.andSame hA hs) hs1⟩
  . have e : j = n0 := by omega
    subst e
    rw [List.take_of_length_le (by omega)] at ht
    have HS0 := hidden ht
    have hss : ss.length = j := hl0
    clear ht hj hjn q0
    go_wp2
    go_loopw [5] (fun i wr => ∃ i2 : Nat, i2 <= n1 /\ i = .int .i64 i2 /\ (cs.take i2).all (wrB j) = true /\ Same W wr) (fun i _ => n1 - (intOf i).toNat)
    case atStart => exact ⟨0, Nat.zero_le _, rfl, rfl, hs⟩
    case round =>
     clear hs
     obtain ⟨i2, hi2, rfl, ht, hs⟩ := hrel
     have q1 := (hs.cell _).trans k1
     by_cases hin : i2 < n1
     . rcases pairs_at rfl g1 with h0' | ⟨b, off, rfl, hbl, hcs⟩
       . omega
       have hdj : cs[i2]? = some (cs[i2]'(by omega)) := List.getElem?_eq_getElem (by omega)
       generalize cs[i2]'(by omega) = x at hdj
       have hal := all_step (p := wrB j) hdj
       have hil := inner_le' hdj
       obtain ⟨v0, v1, hv0, hv1, hrv⟩ := hcs i2 x hdj
       obtain ⟨rfl, hrv'⟩ := wr_rd hrv
       obtain ⟨av, cv, rfl⟩ := row_shape hrv'
       have p0 := (hs.cell ⟨b, off + i2 * 2, none⟩).trans hv0
       have p1 := (hs.cell ⟨b, off + i2 * 2 + 1, none⟩).trans hv1
       obtain ⟨r1, _, _, _⟩ := ints_rd (hrv'.same hs)
       obtain ⟨x0, x1⟩ := x
       simp only at p0 p1 r1 hil
       have HT := hidden ht
       clear hcs hdj hv0 hv1 hrv hrv' ht
       by_cases hI : inB x0 0 ((j : Int) - 1) = true
       . by_cases hx : secB x1 = true
         . have HD := hidden (hal.1 (by unfold wrB; simp only; rw [hI, hx]; rfl) HT.out)
           clear hal
           go_wp2_with fail
           refine (l1In_any _ _ _ _).mono ?_
           rintro e w1 ⟨rfl, hw1'⟩
           subst w1
           go_wp2_with fail
           refine (specSecOk_any _ _ _ _ x1 rfl r1 (by omega)).mono ?_
           rintro e w2 ⟨rfl, hs2⟩
           go_wp2
           go_roundw
           case rel => exact ⟨i2 + 1, by omega, by go_num, HD.out, hs.trans hs2⟩
           case measure => simp [intOf]; omega
         . have hx : secB x1 = false := by simpa using hx
           have HN := hidden (hal.2 (by unfold wrB; simp only; rw [hI, hx]; rfl))
           clear hal
           go_wp2_with fail
           refine (l1In_any _ _ _ _).mono ?_
           rintro e w1 ⟨rfl, hw1'⟩
           subst w1
           go_wp2_with fail
           refine (specSecOk_any _ _ _ _ x1 rfl r1 (by omega)).mono ?_
           rintro e w2 ⟨rfl, hs2⟩
           go_wp2
           go_ret
           exact ⟨ret_bool (by unfold memB; rw [hss, HN.out, HS0.out]; rfl), Below.andSame (Below.andSame hA hs) hs2⟩
       . have hI : inB x0 0 ((j : Int) - 1) = false := by simpa using hI
         have HN := hidden (hal.2 (by unfold wrB; simp only; rw [hI]; rfl))
         clear hal
         go_wp2_with fail
         refine (l1In_any _ _ _ _).mono ?_
         rintro e w1 ⟨rfl, hw1'⟩
         subst w1
         go_wp2
         go_ret
         exact ⟨ret_bool (by unfold memB; rw [hss, HN.out, HS0.out]; rfl), Below.andSame hA hs⟩
     . have e2 : i2 = n1 := by omega
       subst e2
       rw [List.take_of_length_le (by omega)] at ht
       have HS1 := hidden ht
       have hcsl : cs.length = i2 := hl1
       clear ht hi2 hin
       go_wp2
       go_loopw [6] (fun i wr => ∃ i3 : Nat, i3 <= n3 /\ i = .int .i64 i3 /\ (List.range i3).all (badAt j bs) = true /\ Same W wr) (fun i _ => n3 - (intOf i).toNat)
       case atStart => exact ⟨0, Nat.zero_le _, rfl, rfl, hs⟩
       case round =>
        clear hs
        obtain ⟨i3, hi3, rfl, ht, hs⟩ := hrel
        have q3 := (hs.cell _).trans k3
        by_cases hi3n : i3 < n3
        . obtain ⟨R3, _, _, _⟩ := ints_rd g3
          rcases R3.cases with h0' | ⟨b, off, rfl, hbl, hcs⟩
          . omega
          have p0 := (hs.cell ⟨b, off + i3, none⟩).trans (hcs i3 (by omega))
          have HT := hidden ht
          have hrs : (List.range (i3 + 1)).all (badAt j bs) = ((List.range i3).all (badAt j bs) && badAt j bs i3) := by rw [List.range_succ, List.all_append]; simp
          have hrn : badAt j bs i3 = false -> badB j bs = false := by
           intro h
           unfold badB
           rw [List.all_eq_false]
           exact ⟨i3, by simp; omega, by simp [h]⟩
          have hbd : badAt j bs i3 = (inB (bs.getD i3 0) 0 ((j : Int) - 1) && (decide (i3 = 0) || decide (bs.getD (i3 - 1) 0 < bs.getD i3 0))) := rfl
          have i1 : (0 : Int) <= (i3 : Int) := by omega
          have i2' : (i3 : Int) < (n3 : Int) := by omega
          have gw : IntKind.i64.wrap ((j : Int) - 1) = (j : Int) - 1 := IntWalk.i64_in _ (by omega)
          by_cases hI : inB (bs.getD i3 0) 0 ((j : Int) - 1) = true
          . by_cases hz3 : i3 = 0
            . have HD : Hid ((List.range (i3 + 1)).all (badAt j bs) = true) := by unfold Hid; rw [hrs, HT.out, hbd, hI, decide_eq_true hz3]; rfl
              generalize bs.getD i3 0 = y at p0 hI
              have d0 : decide ((0 : Int) < (i3 : Int)) = false := decide_eq_false (by omega)
              have d0b : decide (0 < i3) = false := decide_eq_false (by omega)
              have HZ := hidden hz3
              clear hcs ht hrs hrn hbd hz3 R3
              go_wp2_with fail
              go_quiet ((go_at_call 85; exact Calls.quiet_of_same (l1In_any _ _ _ _)))
              go_wp2
              go_roundw
              case rel => exact ⟨i3 + 1, by omega, by go_num, HD.out, hs.drewN _⟩
              case measure => simp [intOf]; omega
            . have p1 := (hs.cell ⟨b, off + (i3 - 1), none⟩).trans (hcs (i3 - 1) (by omega))
              have d0 : decide ((0 : Int) < (i3 : Int)) = true := decide_eq_true (by omega)
              have d0b : decide (0 < i3) = true := decide_eq_true (by omega)
              have gv : IntKind.i64.wrap ((i3 : Int) - 1) = (i3 : Int) - 1 := IntWalk.i64_in _ (by omega)
              have gt : ((i3 : Int) - 1).toNat = i3 - 1 := by omega
              have i3a : (0 : Int) <= (i3 : Int) - 1 := by omega
              have i3b : (i3 : Int) - 1 < (n3 : Int) := by omega
              by_cases hlt : bs.getD (i3 - 1) 0 < bs.getD i3 0
              . have HD : Hid ((List.range (i3 + 1)).all (badAt j bs) = true) := by unfold Hid; rw [hrs, HT.out, hbd, hI, decide_eq_true hlt]; simp
                generalize bs.getD i3 0 = y at p0 hI hlt
                generalize bs.getD (i3 - 1) 0 = z at p1 hlt
                have d1 : ¬ y <= z := by omega
                clear hcs ht hrs hrn hbd hz3 R3
                go_wp2_with fail
                go_quiet ((go_at_call 85; exact Calls.quiet_of_same (l1In_any _ _ _ _)))
                go_wp2
                go_roundw
                case rel => exact ⟨i3 + 1, by omega, by go_num, HD.out, hs.drewN _⟩
                case measure => simp [intOf]; omega
              . have HN := hidden (hrn (by rw [hbd, hI, decide_eq_false hz3, decide_eq_false hlt]; rfl))
                generalize bs.getD i3 0 = y at p0 hI hlt
                generalize bs.getD (i3 - 1) 0 = z at p1 hlt
                have d1 : y <= z := by omega
                clear hcs ht hrs hrn hbd hz3 R3
                go_wp2_with fail
                go_quiet ((go_at_call 85; exact Calls.quiet_of_same (l1In_any _ _ _ _)))
                go_wp2
                go_ret
                exact ⟨ret_bool (by unfold memB; rw [hss, HN.out, HS1.out, HS0.out]; rfl), Below.andSame hA (hs.drewN _)⟩
          . have hI : inB (bs.getD i3 0) 0 ((j : Int) - 1) = false := by simpa using hI
            have HN := hidden (hrn (by rw [hbd, hI]; rfl))
            generalize bs.getD i3 0 = y at p0 hI
            clear hcs ht hrs hrn hbd R3
            go_wp2_with fail
            go_quiet ((go_at_call 85; exact Calls.quiet_of_same (l1In_any _ _ _ _)))
            go_wp2
            go_ret
            exact ⟨ret_bool (by unfold memB; rw [hss, HN.out, HS1.out, HS0.out]; rfl), Below.andSame hA (hs.drewN _)⟩
        . have e3 : i3 = n3 := by omega
          have HB : Hid (badB j bs = true) := by unfold Hid badB; rw [hl3, ← e3]; exact ht
          clear ht hi3
          have q1 := (hs.cell _).trans k1
          by_cases hI : inB (j : Int) 1 20 = true
          . by_cases h60 : (i2 : Int) <= 60
            . have h60' : i2 <= 60 := by omega
              have H60 := hidden (decide_eq_true h60')
              clear h60'
              go_wp2_with fail
              refine (l1In_any _ _ _ _).mono ?_
              rintro e w1 ⟨rfl, hw1'⟩
              subst w1
              go_wp2
              go_ret
              exact ⟨ret_bool (by unfold memB; rw [hss, hcsl, HB.out, HS1.out, HS0.out, hI, H60.out]; rfl), Below.andSame hA hs⟩
            . have h60' : ¬ i2 <= 60 := by omega
              have H60 := hidden (decide_eq_false h60')
              clear h60'
              go_wp2_with fail
              refine (l1In_any _ _ _ _).mono ?_
              rintro e w1 ⟨rfl, hw1'⟩
              subst w1
              go_wp2
              go_ret
              exact ⟨ret_bool (by unfold memB; rw [hss, hcsl, HB.out, HS1.out, HS0.out, hI, H60.out, decide_eq_false (by omega)]; rfl), Below.andSame hA hs⟩
          . have hI : inB (j : Int) 1 20 = false := by simpa using hI
            go_wp2_with fail
            refine (l1In_any _ _ _ _).mono ?_
            rintro e w1 ⟨rfl, hw1'⟩
            subst w1
            go_wp2
            go_ret
            exact ⟨ret_bool (by unfold memB; rw [hss, HB.out, HS1.out, HS0.out, hI]; rfl), Below.andSame hA hs⟩

def allIx {α : Type} (p : Nat -> α -> Bool) (l : List α) : Bool := (List.range l.length).all fun i => (l[i]?.map (p i)).getD true
theorem allIx_iff {α : Type} {p : Nat -> α -> Bool} {l : List α} : allIx p l = true ↔ ∀ (i : Nat) (x : α), l[i]? = some x -> p i x = true := by
 unfold allIx
 rw [List.all_eq_true]
 constructor
 . intro h i x hx
   have := h i (by rw [List.mem_range]; exact (List.getElem?_eq_some_iff.1 hx).1)
   rw [hx] at this
   simpa using this
 . intro h i hi
   cases hx : l[i]? with
   | none => rfl
   | some x => simpa using h i x hx
theorem allIx_no {α : Type} {p : Nat -> α -> Bool} {l : List α} {i : Nat} {x : α} (hx : l[i]? = some x) (h : p i x = false) : allIx p l = false := by
 cases hb : allIx p l with
 | false => rfl
 | true => rw [allIx_iff.1 hb i x hx] at h; cases h

def memAt (x : ArrN) (i : Nat) (m : MemD) : Bool := memB m.1 m.2.1 m.2.2.2 && (decide ((m.1.length : Int) = 6 + x.s) && (!m.2.2.1 || (decide ((i : Int) = x.lost) || x.broken)))
def memsB (x : ArrN) (ms : List MemD) : Bool := allIx (memAt x) ms && decide ((ms.length : Int) = x.n)
def entAt (x : ArrN) (ds : List (Int × List Int)) (i : Nat) (e : Int × List Int) : Bool := inB e.1 0 (x.s - 1) && (decide ((e.2.length : Int) = x.n - 1) && (allW e.2 && (decide (i = 0) || decide ((ds.getD (i - 1) (0, [])).1 < e.1))))
def entsB (x : ArrN) (ds : List (Int × List Int)) : Bool := allIx (entAt x ds) ds
def lostB6 (x : ArrN) : Bool := inB x.lost (-1) (x.n - 1) && (inB x.built 0 x.s && (!decide (x.lost = -1) || decide (x.built = 0)))
def seqB6 (x : ArrN) : Bool := inB x.tail 0 60000 && (inB x.seq x.tail 60000 && (decide (x.seq <= x.tail + 4) && (inB x.gen 0 60000 && inB x.fuse (-1) 1000)))
def arrB (x : ArrN) (ms : List MemD) (ds : List (Int × List Int)) : Bool := geoB x.n x.s && (inB x.id 1 60000 && (memsB x ms && (entsB x ds && (lostB6 x && seqB6 x))))

theorem l6Secs_any (w : World) (n s : Int) (hs : 1 <= s /\ s <= 8) : Calls Tryz.prog 185 #[.agg #[.int .i64 n, .int .i64 s]] w fun e w' => e = .returned (.int .i64 (6 + s)) /\ Below w.heap.size w w' := by
 have hA := new_below w (.cells #[.int .i64 n, .int .i64 s] 25)
 obtain ⟨k0, k1⟩ := (Gbox.new w 25 n s).cells
 have hw : IntKind.i64.wrap (6 + s) = 6 + s := IntWalk.i64_in _ (by omega)
 go_enter Tryz.func185, Tryz.ntmps185
 go_wp2
 go_ret
 exact ⟨rfl, hA⟩

theorem l6Mems_any (w : World) (E F : TypeId) (x : ArrN) (am ad : Option Addr) (nm cm nd cd : Nat) (ms : List MemD) (h0 : (tMemS E F).Rd w [.slice am nm cm] ms) (hw : wtMemS ms <= 2097152) (hg : geoB x.n x.s = true) :
 Calls Tryz.prog 132 #[.agg #[.int .i64 x.id, .int .i64 x.n, .int .i64 x.s, .slice am nm cm, .int .i64 x.lost, .int .i64 x.built, .int .i64 x.seq, .int .i64 x.tail, .int .i64 x.gen, .slice ad nd cd, .int .i64 x.fuse, .bool x.down, .bool x.broken]] w fun e w' => e = .returned (.bool (memsB x ms)) /\ Below w.heap.size w w' := by
 obtain ⟨hl, hc, hm⟩ := row_length h0
 obtain ⟨g1, g2, g3, g4⟩ := geoB_iff.1 hg
 have hA := new_below w (.cells #[.int .i64 x.id, .int .i64 x.n, .int .i64 x.s, .slice am nm cm, .int .i64 x.lost, .int .i64 x.built, .int .i64 x.seq, .int .i64 x.tail, .int .i64 x.gen, .slice ad nd cd, .int .i64 x.fuse, .bool x.down, .bool x.broken] 29)
 have X := Box.new w 29 #[.int .i64 x.id, .int .i64 x.n, .int .i64 x.s, .slice am nm cm, .int .i64 x.lost, .int .i64 x.built, .int .i64 x.seq, .int .i64 x.tail, .int .i64 x.gen, .slice ad nd cd, .int .i64 x.fuse, .bool x.down, .bool x.broken]
 have zA := X.lt
 have hnm : nm <= 2097152 := by unfold wtMemS at hw; omega
 have h1 := h0.below hA
 go_enter Tryz.func132, Tryz.ntmps132
 go_wp2
 generalize w.alloc (.cells #[.int .i64 x.id, .int .i64 x.n, .int .i64 x.s, .slice am nm cm, .int .i64 x.lost, .int .i64 x.built, .int .i64 x.seq, .int .i64 x.tail, .int .i64 x.gen, .slice ad nd cd, .int .i64 x.fuse, .bool x.down, .bool x.broken] 29) = W at hA X zA h1 ⊢
 go_loopw [3] (fun i wr => ∃ j : Nat, j <= nm /\ i = .int .i64 j /\ (∀ (q : Nat) (m : MemD), q < j -> ms[q]? = some m -> memAt x q m = true) /\ Below W.heap.size W wr) (fun i _ => nm - (intOf i).toNat)
 case atStart => exact ⟨0, Nat.zero_le _, rfl, fun q m hq => by omega, Below.refl _ _⟩
 case round =>
  obtain ⟨j, hj, rfl, hall, hb⟩ := hrel
  have Xr := X.below hb zA
  obtain ⟨k0, k1, k2, k3, k4, k5, k6, k7, k8, k9, k10, k11, k12⟩ := Xr.cells13
  by_cases hjn : j < nm
  . rcases quads_at rfl h1 with h0' | ⟨b, off, rfl, hbl, hcs⟩
    . omega
    have hdj : ms[j]? = some (ms[j]'(by omega)) := List.getElem?_eq_getElem (by omega)
    generalize ms[j]'(by omega) = m at hdj
    obtain ⟨v0, v1, v2, v3, hv0, hv1, hv2, hv3, hrv⟩ := hcs j m hdj
    obtain ⟨a0, c0, a1, c1, a3, c3, ss, cs, f, bs, rfl, rfl, rfl, rfl, rfl, r0, r1, r3⟩ := mem_at hrv
    have u0 := (hb.cell (p := ⟨b, off + j * 4, none⟩) hbl).trans hv0
    have u1 := (hb.cell (p := ⟨b, off + j * 4 + 1, none⟩) hbl).trans hv1
    have u2 := (hb.cell (p := ⟨b, off + j * 4 + 2, none⟩) hbl).trans hv2
    have u3 := (hb.cell (p := ⟨b, off + j * 4 + 3, none⟩) hbl).trans hv3
    have i1 : (0 : Int) <= (j : Int) := by omega
    have i2 : (j : Int) < (nm : Int) := by omega
    have hwm := Nat.le_trans (inner_leM hdj) hw
    have HDJ := hidden hdj
    clear hcs hv0 hv1 hv2 hv3 hrv hdj
    have b1 := new_below wr (.cells #[.slice a0 ss.length c0, .slice a1 cs.length c1, .bool f, .slice a3 bs.length c3] 109)
    have Y1 := Box.new wr 109 #[.slice a0 ss.length c0, .slice a1 cs.length c1, .bool f, .slice a3 bs.length c3]
    have X1 := Xr.below b1 Xr.lt
    have R0 := (r0.below hb).below b1
    have R1 := (r1.below hb).below b1
    have R3 := (r3.below hb).below b1
    have B1 := hb.trans (b1.mono hb.size)
    clear r0 r1 r3 b1
    obtain ⟨y0, y1, y2, y3⟩ := Y1.cells4
    obtain ⟨e0, e1, e2, e3, e4, e5, e6, e7, e8, e9, e10, e11, e12⟩ := X1.cells13
    have zy := Y1.lt
    have zx := X1.lt
    clear e0 e3 e5 e6 e7 e8 e9 e10 e11
    cases hM : memB ss cs bs
    . skip
      go_wp2_with fail
      generalize wr.alloc (.cells #[.slice a0 ss.length c0, .slice a1 cs.length c1, .bool f, .slice a3 bs.length c3] 109) = w1 at X1 Y1 R0 R1 R3 B1 y0 y1 y2 y3 e1 e2 e4 e12 zy zx ⊢
      refine wp_region_held_drew (S := fun w' => w'.cell? ⟨wr.heap.size, 0, none⟩ = some (.slice a0 ss.length c0) /\ w'.cell? ⟨wr.heap.size, 1, none⟩ = some (.slice a1 cs.length c1) /\ w'.cell? ⟨wr.heap.size, 2, none⟩ = some (.bool f) /\ w'.cell? ⟨wr.heap.size, 3, none⟩ = some (.slice a3 bs.length c3) /\ w'.cell? ⟨w.heap.size, 1, none⟩ = some (.int .i64 x.n) /\ w'.cell? ⟨w.heap.size, 2, none⟩ = some (.int .i64 x.s) /\ w'.cell? ⟨w.heap.size, 4, none⟩ = some (.int .i64 x.lost) /\ w'.cell? ⟨w.heap.size, 12, none⟩ = some (.bool x.broken)) (by kernel_rfl) ?_ (fun hHeld => ?_)
      . exact ⟨y0, y1, y2, y3, e1, e2, e4, e12⟩
      refine held_t 0 hHeld ?_
      refine held_one (i := 1) (by kernel_rfl) rfl (by kernel_rfl) (fun K hK => ?_)
      go_simp
      refine (specMemOk_any _ E _ _ _ _ _ _ _ _ _ ss cs f bs R0.drew R1.drew R3.drew hwm).mono ?_
      rintro e w2 ⟨rfl, b2⟩
      rw [hM]
      have b2' : Below w1.heap.size w1 w2 := (Below.refl w1.heap.size w1).drew.trans b2
      clear b2
      go_wp2_with fail
      clear hHeld
      refine hK.out _ _ ?_ (fun hHeld => ?_)
      . exact ⟨(b2'.cell (p := ⟨wr.heap.size, 0, none⟩) zy).trans y0, (b2'.cell (p := ⟨wr.heap.size, 1, none⟩) zy).trans y1, (b2'.cell (p := ⟨wr.heap.size, 2, none⟩) zy).trans y2, (b2'.cell (p := ⟨wr.heap.size, 3, none⟩) zy).trans y3, (b2'.cell (p := ⟨w.heap.size, 1, none⟩) zx).trans e1, (b2'.cell (p := ⟨w.heap.size, 2, none⟩) zx).trans e2, (b2'.cell (p := ⟨w.heap.size, 4, none⟩) zx).trans e4, (b2'.cell (p := ⟨w.heap.size, 12, none⟩) zx).trans e12⟩
      clear hK K
      refine held_t 2 hHeld ?_
      refine held_t 3 hHeld ?_
      refine held_p 4 hHeld ?_
      refine held_p 5 hHeld ?_
      refine held_p 6 hHeld ?_
      refine held_p 7 hHeld ?_
      refine held_p 8 hHeld ?_
      refine held_none (i := 9) (by kernel_rfl) rfl (by kernel_rfl) hHeld ?_
      simp only [Act.put, List.setIfInBounds_toArray, List.set_cons_zero, List.set_cons_succ]
      refine held_p 10 hHeld ?_
      refine held_t 11 hHeld ?_
      refine held_t 12 hHeld ?_
      refine held_p 13 hHeld ?_
      refine held_p 14 hHeld ?_
      refine held_p 15 hHeld ?_
      refine held_p 16 hHeld ?_
      refine held_p 17 hHeld ?_
      refine held_p 18 hHeld ?_
      refine held_p 19 hHeld ?_
      refine held_p 20 hHeld ?_
      refine held_p 21 hHeld ?_
      refine held_p 22 hHeld ?_
      refine held_p 23 hHeld ?_
      refine held_p 24 hHeld ?_
      refine held_p 25 hHeld ?_
      refine held_t 26 hHeld ?_
      refine wpAnyH_done (by kernel_rfl) ?_ _
      clear hHeld
      have HB := hidden (hA.trans ((B1.trans (b2'.mono B1.size)).mono hA.size))
      go_wp2
      go_ret
      exact ⟨ret_bool (by rw [show memsB x ms = false from (by unfold memsB; rw [allIx_no HDJ.out (by unfold memAt; simp [hM])]; rfl)]), HB.out⟩
    . by_cases hS : (ss.length : Int) = 6 + x.s
      . have hS1 : ((ss.length : Int) == 6 + x.s) = true := by simpa using hS
        have hS2 : ((ss.length : Int) != 6 + x.s) = false := by simpa using hS
        have HS := hidden hS
        clear hS
        cases f
        . skip
          go_wp2_with fail
          generalize wr.alloc (.cells #[.slice a0 ss.length c0, .slice a1 cs.length c1, .bool false, .slice a3 bs.length c3] 109) = w1 at X1 Y1 R0 R1 R3 B1 y0 y1 y2 y3 e1 e2 e4 e12 zy zx ⊢
          refine wp_region_held_drew (S := fun w' => w'.cell? ⟨wr.heap.size, 0, none⟩ = some (.slice a0 ss.length c0) /\ w'.cell? ⟨wr.heap.size, 1, none⟩ = some (.slice a1 cs.length c1) /\ w'.cell? ⟨wr.heap.size, 2, none⟩ = some (.bool false) /\ w'.cell? ⟨wr.heap.size, 3, none⟩ = some (.slice a3 bs.length c3) /\ w'.cell? ⟨w.heap.size, 1, none⟩ = some (.int .i64 x.n) /\ w'.cell? ⟨w.heap.size, 2, none⟩ = some (.int .i64 x.s) /\ w'.cell? ⟨w.heap.size, 4, none⟩ = some (.int .i64 x.lost) /\ w'.cell? ⟨w.heap.size, 12, none⟩ = some (.bool x.broken)) (by kernel_rfl) ?_ (fun hHeld => ?_)
          . exact ⟨y0, y1, y2, y3, e1, e2, e4, e12⟩
          refine held_t 0 hHeld ?_
          refine held_one (i := 1) (by kernel_rfl) rfl (by kernel_rfl) (fun K hK => ?_)
          go_simp
          refine (specMemOk_any _ E _ _ _ _ _ _ _ _ _ ss cs false bs R0.drew R1.drew R3.drew hwm).mono ?_
          rintro e w2 ⟨rfl, b2⟩
          rw [hM]
          have b2' : Below w1.heap.size w1 w2 := (Below.refl w1.heap.size w1).drew.trans b2
          clear b2
          go_wp2_with fail
          clear hHeld
          refine hK.out _ _ ?_ (fun hHeld => ?_)
          . exact ⟨(b2'.cell (p := ⟨wr.heap.size, 0, none⟩) zy).trans y0, (b2'.cell (p := ⟨wr.heap.size, 1, none⟩) zy).trans y1, (b2'.cell (p := ⟨wr.heap.size, 2, none⟩) zy).trans y2, (b2'.cell (p := ⟨wr.heap.size, 3, none⟩) zy).trans y3, (b2'.cell (p := ⟨w.heap.size, 1, none⟩) zx).trans e1, (b2'.cell (p := ⟨w.heap.size, 2, none⟩) zx).trans e2, (b2'.cell (p := ⟨w.heap.size, 4, none⟩) zx).trans e4, (b2'.cell (p := ⟨w.heap.size, 12, none⟩) zx).trans e12⟩
          clear hK K
          refine held_t 2 hHeld ?_
          refine held_t 3 hHeld ?_
          refine held_t 4 hHeld ?_
          refine held_t 5 hHeld ?_
          refine held_t 6 hHeld ?_
          refine held_t 7 hHeld ?_
          refine held_t 8 hHeld ?_
          refine held_one (i := 9) (by kernel_rfl) rfl (by kernel_rfl) (fun K hK => ?_)
          go_simp
          refine (l6Secs_any _ x.n x.s ⟨g3, g4⟩).mono ?_
          rintro e w3 ⟨rfl, b3⟩
          have b3' : Below w1.heap.size w1 w3 := Below.andThen b2' b3
          clear b3
          go_wp2_with fail
          clear hHeld
          refine hK.out _ _ ?_ (fun hHeld => ?_)
          . exact ⟨(b3'.cell (p := ⟨wr.heap.size, 0, none⟩) zy).trans y0, (b3'.cell (p := ⟨wr.heap.size, 1, none⟩) zy).trans y1, (b3'.cell (p := ⟨wr.heap.size, 2, none⟩) zy).trans y2, (b3'.cell (p := ⟨wr.heap.size, 3, none⟩) zy).trans y3, (b3'.cell (p := ⟨w.heap.size, 1, none⟩) zx).trans e1, (b3'.cell (p := ⟨w.heap.size, 2, none⟩) zx).trans e2, (b3'.cell (p := ⟨w.heap.size, 4, none⟩) zx).trans e4, (b3'.cell (p := ⟨w.heap.size, 12, none⟩) zx).trans e12⟩
          clear hK K
          refine held_t 10 hHeld ?_
          refine held_t 11 hHeld ?_
          refine held_t 12 hHeld ?_
          refine held_t 13 hHeld ?_
          refine held_t 14 hHeld ?_
          refine held_t 15 hHeld ?_
          refine held_p 16 hHeld ?_
          refine held_p 17 hHeld ?_
          refine held_p 18 hHeld ?_
          refine held_p 19 hHeld ?_
          refine held_t 20 hHeld ?_
          refine held_t 21 hHeld ?_
          refine held_p 22 hHeld ?_
          refine held_p 23 hHeld ?_
          refine held_p 24 hHeld ?_
          refine held_t 25 hHeld ?_
          refine held_t 26 hHeld ?_
          refine wpAnyH_done (by kernel_rfl) ?_ _
          clear hHeld
          have HB := hidden (B1.trans (b3'.mono B1.size))
          have hat : memAt x j (ss, cs, false, bs) = true := (by unfold memAt; simp [hM, HS.out])
          go_wp2
          go_roundw
          case rel => exact ⟨j + 1, by omega, by go_num, fun q m hq hm' => by
           rcases Nat.lt_or_ge q j with h | h
           . exact hall q m h hm'
           . obtain rfl : q = j := by omega
             rw [HDJ.out] at hm'
             cases hm'
             exact hat, HB.out⟩
          case measure => simp [intOf]; omega
        . by_cases hL : (j : Int) = x.lost
          . have hL1 : ((j : Int) == x.lost) = true := by simpa using hL
            have hL2 : ((j : Int) != x.lost) = false := by simpa using hL
            have HL := hidden hL
            clear hL
            go_wp2_with fail
            generalize wr.alloc (.cells #[.slice a0 ss.length c0, .slice a1 cs.length c1, .bool true, .slice a3 bs.length c3] 109) = w1 at X1 Y1 R0 R1 R3 B1 y0 y1 y2 y3 e1 e2 e4 e12 zy zx ⊢
            refine wp_region_held_drew (S := fun w' => w'.cell? ⟨wr.heap.size, 0, none⟩ = some (.slice a0 ss.length c0) /\ w'.cell? ⟨wr.heap.size, 1, none⟩ = some (.slice a1 cs.length c1) /\ w'.cell? ⟨wr.heap.size, 2, none⟩ = some (.bool true) /\ w'.cell? ⟨wr.heap.size, 3, none⟩ = some (.slice a3 bs.length c3) /\ w'.cell? ⟨w.heap.size, 1, none⟩ = some (.int .i64 x.n) /\ w'.cell? ⟨w.heap.size, 2, none⟩ = some (.int .i64 x.s) /\ w'.cell? ⟨w.heap.size, 4, none⟩ = some (.int .i64 x.lost) /\ w'.cell? ⟨w.heap.size, 12, none⟩ = some (.bool x.broken)) (by kernel_rfl) ?_ (fun hHeld => ?_)
            . exact ⟨y0, y1, y2, y3, e1, e2, e4, e12⟩
            refine held_t 0 hHeld ?_
            refine held_one (i := 1) (by kernel_rfl) rfl (by kernel_rfl) (fun K hK => ?_)
            go_simp
            refine (specMemOk_any _ E _ _ _ _ _ _ _ _ _ ss cs true bs R0.drew R1.drew R3.drew hwm).mono ?_
            rintro e w2 ⟨rfl, b2⟩
            rw [hM]
            have b2' : Below w1.heap.size w1 w2 := (Below.refl w1.heap.size w1).drew.trans b2
            clear b2
            go_wp2_with fail
            clear hHeld
            refine hK.out _ _ ?_ (fun hHeld => ?_)
            . exact ⟨(b2'.cell (p := ⟨wr.heap.size, 0, none⟩) zy).trans y0, (b2'.cell (p := ⟨wr.heap.size, 1, none⟩) zy).trans y1, (b2'.cell (p := ⟨wr.heap.size, 2, none⟩) zy).trans y2, (b2'.cell (p := ⟨wr.heap.size, 3, none⟩) zy).trans y3, (b2'.cell (p := ⟨w.heap.size, 1, none⟩) zx).trans e1, (b2'.cell (p := ⟨w.heap.size, 2, none⟩) zx).trans e2, (b2'.cell (p := ⟨w.heap.size, 4, none⟩) zx).trans e4, (b2'.cell (p := ⟨w.heap.size, 12, none⟩) zx).trans e12⟩
            clear hK K
            refine held_t 2 hHeld ?_
            refine held_t 3 hHeld ?_
            refine held_t 4 hHeld ?_
            refine held_t 5 hHeld ?_
            refine held_t 6 hHeld ?_
            refine held_t 7 hHeld ?_
            refine held_t 8 hHeld ?_
            refine held_one (i := 9) (by kernel_rfl) rfl (by kernel_rfl) (fun K hK => ?_)
            go_simp
            refine (l6Secs_any _ x.n x.s ⟨g3, g4⟩).mono ?_
            rintro e w3 ⟨rfl, b3⟩
            have b3' : Below w1.heap.size w1 w3 := Below.andThen b2' b3
            clear b3
            go_wp2_with fail
            clear hHeld
            refine hK.out _ _ ?_ (fun hHeld => ?_)
            . exact ⟨(b3'.cell (p := ⟨wr.heap.size, 0, none⟩) zy).trans y0, (b3'.cell (p := ⟨wr.heap.size, 1, none⟩) zy).trans y1, (b3'.cell (p := ⟨wr.heap.size, 2, none⟩) zy).trans y2, (b3'.cell (p := ⟨wr.heap.size, 3, none⟩) zy).trans y3, (b3'.cell (p := ⟨w.heap.size, 1, none⟩) zx).trans e1, (b3'.cell (p := ⟨w.heap.size, 2, none⟩) zx).trans e2, (b3'.cell (p := ⟨w.heap.size, 4, none⟩) zx).trans e4, (b3'.cell (p := ⟨w.heap.size, 12, none⟩) zx).trans e12⟩
            clear hK K
            refine held_t 10 hHeld ?_
            refine held_t 11 hHeld ?_
            refine held_t 12 hHeld ?_
            refine held_t 13 hHeld ?_
            refine held_t 14 hHeld ?_
            refine held_t 15 hHeld ?_
            refine held_t 16 hHeld ?_
            refine held_t 17 hHeld ?_
            refine held_t 18 hHeld ?_
            refine held_t 19 hHeld ?_
            refine held_t 20 hHeld ?_
            refine held_t 21 hHeld ?_
            refine held_p 22 hHeld ?_
            refine held_p 23 hHeld ?_
            refine held_p 24 hHeld ?_
            refine held_t 25 hHeld ?_
            refine held_t 26 hHeld ?_
            refine wpAnyH_done (by kernel_rfl) ?_ _
            clear hHeld
            have HB := hidden (B1.trans (b3'.mono B1.size))
            have hat : memAt x j (ss, cs, true, bs) = true := (by unfold memAt; simp [hM, HS.out, HL.out])
            go_wp2
            go_roundw
            case rel => exact ⟨j + 1, by omega, by go_num, fun q m hq hm' => by
             rcases Nat.lt_or_ge q j with h | h
             . exact hall q m h hm'
             . obtain rfl : q = j := by omega
               rw [HDJ.out] at hm'
               cases hm'
               exact hat, HB.out⟩
            case measure => simp [intOf]; omega
          . have hL1 : ((j : Int) == x.lost) = false := by simpa using hL
            have hL2 : ((j : Int) != x.lost) = true := by simpa using hL
            have HL := hidden hL
            clear hL
            cases hBr : x.broken
            . rw [hBr] at e12
              go_wp2_with fail
              generalize wr.alloc (.cells #[.slice a0 ss.length c0, .slice a1 cs.length c1, .bool true, .slice a3 bs.length c3] 109) = w1 at X1 Y1 R0 R1 R3 B1 y0 y1 y2 y3 e1 e2 e4 e12 zy zx ⊢
              refine wp_region_held_drew (S := fun w' => w'.cell? ⟨wr.heap.size, 0, none⟩ = some (.slice a0 ss.length c0) /\ w'.cell? ⟨wr.heap.size, 1, none⟩ = some (.slice a1 cs.length c1) /\ w'.cell? ⟨wr.heap.size, 2, none⟩ = some (.bool true) /\ w'.cell? ⟨wr.heap.size, 3, none⟩ = some (.slice a3 bs.length c3) /\ w'.cell? ⟨w.heap.size, 1, none⟩ = some (.int .i64 x.n) /\ w'.cell? ⟨w.heap.size, 2, none⟩ = some (.int .i64 x.s) /\ w'.cell? ⟨w.heap.size, 4, none⟩ = some (.int .i64 x.lost) /\ w'.cell? ⟨w.heap.size, 12, none⟩ = some (.bool false)) (by kernel_rfl) ?_ (fun hHeld => ?_)
              . exact ⟨y0, y1, y2, y3, e1, e2, e4, e12⟩
              refine held_t 0 hHeld ?_
              refine held_one (i := 1) (by kernel_rfl) rfl (by kernel_rfl) (fun K hK => ?_)
              go_simp
              refine (specMemOk_any _ E _ _ _ _ _ _ _ _ _ ss cs true bs R0.drew R1.drew R3.drew hwm).mono ?_
              rintro e w2 ⟨rfl, b2⟩
              rw [hM]
              have b2' : Below w1.heap.size w1 w2 := (Below.refl w1.heap.size w1).drew.trans b2
              clear b2
              go_wp2_with fail
              clear hHeld
              refine hK.out _ _ ?_ (fun hHeld => ?_)
              . exact ⟨(b2'.cell (p := ⟨wr.heap.size, 0, none⟩) zy).trans y0, (b2'.cell (p := ⟨wr.heap.size, 1, none⟩) zy).trans y1, (b2'.cell (p := ⟨wr.heap.size, 2, none⟩) zy).trans y2, (b2'.cell (p := ⟨wr.heap.size, 3, none⟩) zy).trans y3, (b2'.cell (p := ⟨w.heap.size, 1, none⟩) zx).trans e1, (b2'.cell (p := ⟨w.heap.size, 2, none⟩) zx).trans e2, (b2'.cell (p := ⟨w.heap.size, 4, none⟩) zx).trans e4, (b2'.cell (p := ⟨w.heap.size, 12, none⟩) zx).trans e12⟩
              clear hK K
              refine held_t 2 hHeld ?_
              refine held_t 3 hHeld ?_
              refine held_t 4 hHeld ?_
              refine held_t 5 hHeld ?_
              refine held_t 6 hHeld ?_
              refine held_t 7 hHeld ?_
              refine held_t 8 hHeld ?_
              refine held_one (i := 9) (by kernel_rfl) rfl (by kernel_rfl) (fun K hK => ?_)
              go_simp
              refine (l6Secs_any _ x.n x.s ⟨g3, g4⟩).mono ?_
              rintro e w3 ⟨rfl, b3⟩
              have b3' : Below w1.heap.size w1 w3 := Below.andThen b2' b3
              clear b3
              go_wp2_with fail
              clear hHeld
              refine hK.out _ _ ?_ (fun hHeld => ?_)
              . exact ⟨(b3'.cell (p := ⟨wr.heap.size, 0, none⟩) zy).trans y0, (b3'.cell (p := ⟨wr.heap.size, 1, none⟩) zy).trans y1, (b3'.cell (p := ⟨wr.heap.size, 2, none⟩) zy).trans y2, (b3'.cell (p := ⟨wr.heap.size, 3, none⟩) zy).trans y3, (b3'.cell (p := ⟨w.heap.size, 1, none⟩) zx).trans e1, (b3'.cell (p := ⟨w.heap.size, 2, none⟩) zx).trans e2, (b3'.cell (p := ⟨w.heap.size, 4, none⟩) zx).trans e4, (b3'.cell (p := ⟨w.heap.size, 12, none⟩) zx).trans e12⟩
              clear hK K
              refine held_t 10 hHeld ?_
              refine held_t 11 hHeld ?_
              refine held_t 12 hHeld ?_
              refine held_t 13 hHeld ?_
              refine held_t 14 hHeld ?_
              refine held_t 15 hHeld ?_
              refine held_t 16 hHeld ?_
              refine held_t 17 hHeld ?_
              refine held_t 18 hHeld ?_
              refine held_t 19 hHeld ?_
              refine held_t 20 hHeld ?_
              refine held_t 21 hHeld ?_
              refine held_t 22 hHeld ?_
              refine held_t 23 hHeld ?_
              refine held_t 24 hHeld ?_
              refine held_t 25 hHeld ?_
              refine held_t 26 hHeld ?_
              refine wpAnyH_done (by kernel_rfl) ?_ _
              clear hHeld
              have HB := hidden (hA.trans ((B1.trans (b3'.mono B1.size)).mono hA.size))
              go_wp2
              go_ret
              exact ⟨ret_bool (by rw [show memsB x ms = false from (by unfold memsB; rw [allIx_no HDJ.out (by unfold memAt; simp [HL.out, hBr])]; rfl)]), HB.out⟩
            . rw [hBr] at e12
              go_wp2_with fail
              generalize wr.alloc (.cells #[.slice a0 ss.length c0, .slice a1 cs.length c1, .bool true, .slice a3 bs.length c3] 109) = w1 at X1 Y1 R0 R1 R3 B1 y0 y1 y2 y3 e1 e2 e4 e12 zy zx ⊢
              refine wp_region_held_drew (S := fun w' => w'.cell? ⟨wr.heap.size, 0, none⟩ = some (.slice a0 ss.length c0) /\ w'.cell? ⟨wr.heap.size, 1, none⟩ = some (.slice a1 cs.length c1) /\ w'.cell? ⟨wr.heap.size, 2, none⟩ = some (.bool true) /\ w'.cell? ⟨wr.heap.size, 3, none⟩ = some (.slice a3 bs.length c3) /\ w'.cell? ⟨w.heap.size, 1, none⟩ = some (.int .i64 x.n) /\ w'.cell? ⟨w.heap.size, 2, none⟩ = some (.int .i64 x.s) /\ w'.cell? ⟨w.heap.size, 4, none⟩ = some (.int .i64 x.lost) /\ w'.cell? ⟨w.heap.size, 12, none⟩ = some (.bool true)) (by kernel_rfl) ?_ (fun hHeld => ?_)
              . exact ⟨y0, y1, y2, y3, e1, e2, e4, e12⟩
              refine held_t 0 hHeld ?_
              refine held_one (i := 1) (by kernel_rfl) rfl (by kernel_rfl) (fun K hK => ?_)
              go_simp
              refine (specMemOk_any _ E _ _ _ _ _ _ _ _ _ ss cs true bs R0.drew R1.drew R3.drew hwm).mono ?_
              rintro e w2 ⟨rfl, b2⟩
              rw [hM]
              have b2' : Below w1.heap.size w1 w2 := (Below.refl w1.heap.size w1).drew.trans b2
              clear b2
              go_wp2_with fail
              clear hHeld
              refine hK.out _ _ ?_ (fun hHeld => ?_)
              . exact ⟨(b2'.cell (p := ⟨wr.heap.size, 0, none⟩) zy).trans y0, (b2'.cell (p := ⟨wr.heap.size, 1, none⟩) zy).trans y1, (b2'.cell (p := ⟨wr.heap.size, 2, none⟩) zy).trans y2, (b2'.cell (p := ⟨wr.heap.size, 3, none⟩) zy).trans y3, (b2'.cell (p := ⟨w.heap.size, 1, none⟩) zx).trans e1, (b2'.cell (p := ⟨w.heap.size, 2, none⟩) zx).trans e2, (b2'.cell (p := ⟨w.heap.size, 4, none⟩) zx).trans e4, (b2'.cell (p := ⟨w.heap.size, 12, none⟩) zx).trans e12⟩
              clear hK K
              refine held_t 2 hHeld ?_
              refine held_t 3 hHeld ?_
              refine held_t 4 hHeld ?_
              refine held_t 5 hHeld ?_
              refine held_t 6 hHeld ?_
              refine held_t 7 hHeld ?_
              refine held_t 8 hHeld ?_
              refine held_one (i := 9) (by kernel_rfl) rfl (by kernel_rfl) (fun K hK => ?_)
              go_simp
              refine (l6Secs_any _ x.n x.s ⟨g3, g4⟩).mono ?_
              rintro e w3 ⟨rfl, b3⟩
              have b3' : Below w1.heap.size w1 w3 := Below.andThen b2' b3
              clear b3
              go_wp2_with fail
              clear hHeld
              refine hK.out _ _ ?_ (fun hHeld => ?_)
              . exact ⟨(b3'.cell (p := ⟨wr.heap.size, 0, none⟩) zy).trans y0, (b3'.cell (p := ⟨wr.heap.size, 1, none⟩) zy).trans y1, (b3'.cell (p := ⟨wr.heap.size, 2, none⟩) zy).trans y2, (b3'.cell (p := ⟨wr.heap.size, 3, none⟩) zy).trans y3, (b3'.cell (p := ⟨w.heap.size, 1, none⟩) zx).trans e1, (b3'.cell (p := ⟨w.heap.size, 2, none⟩) zx).trans e2, (b3'.cell (p := ⟨w.heap.size, 4, none⟩) zx).trans e4, (b3'.cell (p := ⟨w.heap.size, 12, none⟩) zx).trans e12⟩
              clear hK K
              refine held_t 10 hHeld ?_
              refine held_t 11 hHeld ?_
              refine held_t 12 hHeld ?_
              refine held_t 13 hHeld ?_
              refine held_t 14 hHeld ?_
              refine held_t 15 hHeld ?_
              refine held_t 16 hHeld ?_
              refine held_t 17 hHeld ?_
              refine held_t 18 hHeld ?_
              refine held_t 19 hHeld ?_
              refine held_t 20 hHeld ?_
              refine held_t 21 hHeld ?_
              refine held_t 22 hHeld ?_
              refine held_t 23 hHeld ?_
              refine held_t 24 hHeld ?_
              refine held_t 25 hHeld ?_
              refine held_t 26 hHeld ?_
              refine wpAnyH_done (by kernel_rfl) ?_ _
              clear hHeld
              have HB := hidden (B1.trans (b3'.mono B1.size))
              have hat : memAt x j (ss, cs, true, bs) = true := (by unfold memAt; simp [hM, HS.out, hBr])
              go_wp2
              go_roundw
              case rel => exact ⟨j + 1, by omega, by go_num, fun q m hq hm' => by
               rcases Nat.lt_or_ge q j with h | h
               . exact hall q m h hm'
               . obtain rfl : q = j := by omega
                 rw [HDJ.out] at hm'
                 cases hm'
                 exact hat, HB.out⟩
              case measure => simp [intOf]; omega
      . have hS1 : ((ss.length : Int) == 6 + x.s) = false := by simpa using hS
        have hS2 : ((ss.length : Int) != 6 + x.s) = true := by simpa using hS
        have HS := hidden hS
        clear hS
        go_wp2_with fail
        generalize wr.alloc (.cells #[.slice a0 ss.length c0, .slice a1 cs.length c1, .bool f, .slice a3 bs.length c3] 109) = w1 at X1 Y1 R0 R1 R3 B1 y0 y1 y2 y3 e1 e2 e4 e12 zy zx ⊢
        refine wp_region_held_drew (S := fun w' => w'.cell? ⟨wr.heap.size, 0, none⟩ = some (.slice a0 ss.length c0) /\ w'.cell? ⟨wr.heap.size, 1, none⟩ = some (.slice a1 cs.length c1) /\ w'.cell? ⟨wr.heap.size, 2, none⟩ = some (.bool f) /\ w'.cell? ⟨wr.heap.size, 3, none⟩ = some (.slice a3 bs.length c3) /\ w'.cell? ⟨w.heap.size, 1, none⟩ = some (.int .i64 x.n) /\ w'.cell? ⟨w.heap.size, 2, none⟩ = some (.int .i64 x.s) /\ w'.cell? ⟨w.heap.size, 4, none⟩ = some (.int .i64 x.lost) /\ w'.cell? ⟨w.heap.size, 12, none⟩ = some (.bool x.broken)) (by kernel_rfl) ?_ (fun hHeld => ?_)
        . exact ⟨y0, y1, y2, y3, e1, e2, e4, e12⟩
        refine held_t 0 hHeld ?_
        refine held_one (i := 1) (by kernel_rfl) rfl (by kernel_rfl) (fun K hK => ?_)
        go_simp
        refine (specMemOk_any _ E _ _ _ _ _ _ _ _ _ ss cs f bs R0.drew R1.drew R3.drew hwm).mono ?_
        rintro e w2 ⟨rfl, b2⟩
        rw [hM]
        have b2' : Below w1.heap.size w1 w2 := (Below.refl w1.heap.size w1).drew.trans b2
        clear b2
        go_wp2_with fail
        clear hHeld
        refine hK.out _ _ ?_ (fun hHeld => ?_)
        . exact ⟨(b2'.cell (p := ⟨wr.heap.size, 0, none⟩) zy).trans y0, (b2'.cell (p := ⟨wr.heap.size, 1, none⟩) zy).trans y1, (b2'.cell (p := ⟨wr.heap.size, 2, none⟩) zy).trans y2, (b2'.cell (p := ⟨wr.heap.size, 3, none⟩) zy).trans y3, (b2'.cell (p := ⟨w.heap.size, 1, none⟩) zx).trans e1, (b2'.cell (p := ⟨w.heap.size, 2, none⟩) zx).trans e2, (b2'.cell (p := ⟨w.heap.size, 4, none⟩) zx).trans e4, (b2'.cell (p := ⟨w.heap.size, 12, none⟩) zx).trans e12⟩
        clear hK K
        refine held_t 2 hHeld ?_
        refine held_t 3 hHeld ?_
        refine held_t 4 hHeld ?_
        refine held_t 5 hHeld ?_
        refine held_t 6 hHeld ?_
        refine held_t 7 hHeld ?_
        refine held_t 8 hHeld ?_
        refine held_one (i := 9) (by kernel_rfl) rfl (by kernel_rfl) (fun K hK => ?_)
        go_simp
        refine (l6Secs_any _ x.n x.s ⟨g3, g4⟩).mono ?_
        rintro e w3 ⟨rfl, b3⟩
        have b3' : Below w1.heap.size w1 w3 := Below.andThen b2' b3
        clear b3
        go_wp2_with fail
        clear hHeld
        refine hK.out _ _ ?_ (fun hHeld => ?_)
        . exact ⟨(b3'.cell (p := ⟨wr.heap.size, 0, none⟩) zy).trans y0, (b3'.cell (p := ⟨wr.heap.size, 1, none⟩) zy).trans y1, (b3'.cell (p := ⟨wr.heap.size, 2, none⟩) zy).trans y2, (b3'.cell (p := ⟨wr.heap.size, 3, none⟩) zy).trans y3, (b3'.cell (p := ⟨w.heap.size, 1, none⟩) zx).trans e1, (b3'.cell (p := ⟨w.heap.size, 2, none⟩) zx).trans e2, (b3'.cell (p := ⟨w.heap.size, 4, none⟩) zx).trans e4, (b3'.cell (p := ⟨w.heap.size, 12, none⟩) zx).trans e12⟩
        clear hK K
        refine held_t 10 hHeld ?_
        refine held_t 11 hHeld ?_
        refine held_t 12 hHeld ?_
        refine held_p 13 hHeld ?_
        refine held_p 14 hHeld ?_
        refine held_p 15 hHeld ?_
        refine held_p 16 hHeld ?_
        refine held_p 17 hHeld ?_
        refine held_p 18 hHeld ?_
        refine held_p 19 hHeld ?_
        refine held_p 20 hHeld ?_
        refine held_p 21 hHeld ?_
        refine held_p 22 hHeld ?_
        refine held_p 23 hHeld ?_
        refine held_p 24 hHeld ?_
        refine held_p 25 hHeld ?_
        refine held_t 26 hHeld ?_
        refine wpAnyH_done (by kernel_rfl) ?_ _
        clear hHeld
        have HB := hidden (hA.trans ((B1.trans (b3'.mono B1.size)).mono hA.size))
        go_wp2
        go_ret
        exact ⟨ret_bool (by rw [show memsB x ms = false from (by unfold memsB; rw [allIx_no HDJ.out (by unfold memAt; simp [HS.out])]; rfl)]), HB.out⟩
  . have e : j = nm := by omega
    subst e
    have hAll : allIx (memAt x) ms = true := allIx_iff.2 (fun q m hq => hall q m (by have := (List.getElem?_eq_some_iff.1 hq).1; omega) hq)
    have HB := hidden (hA.trans (hb.mono hA.size))
    have hR : memsB x ms = ((j : Int) == x.n) := by unfold memsB; rw [hAll, hl]; simp [BEq.beq]
    go_wp2
    go_ret
    exact ⟨ret_bool hR.symm, HB.out⟩

theorem entsB_no {x : ArrN} {ds : List (Int × List Int)} {i : Nat} {d : Int × List Int} (hx : ds[i]? = some d) (h : entAt x ds i d = false) : entsB x ds = false := allIx_no hx h
theorem entAt_1 {x : ArrN} {ds : List (Int × List Int)} {i : Nat} {y : Int} {zs : List Int} (h : inB y 0 (x.s - 1) = false) : entAt x ds i (y, zs) = false := by unfold entAt; rw [h]; rfl
theorem entAt_2 {x : ArrN} {ds : List (Int × List Int)} {i : Nat} {y : Int} {zs : List Int} (h : ¬ (zs.length : Int) = x.n - 1) : entAt x ds i (y, zs) = false := by unfold entAt; simp [h]
theorem entAt_3 {x : ArrN} {ds : List (Int × List Int)} {i : Nat} {y : Int} {zs : List Int} (h : allW zs = false) : entAt x ds i (y, zs) = false := by unfold entAt; simp [h]
theorem entAt_4 {x : ArrN} {ds : List (Int × List Int)} {y : Int} {zs : List Int} (h1 : inB y 0 (x.s - 1) = true) (h2 : (zs.length : Int) = x.n - 1) (h3 : allW zs = true) : entAt x ds 0 (y, zs) = true := by unfold entAt; simp [h1, h2, h3]
theorem entAt_5 {x : ArrN} {ds : List (Int × List Int)} {p : Nat} {y : Int} {zs : List Int} {q : Int × List Int} (h1 : inB y 0 (x.s - 1) = true) (h2 : (zs.length : Int) = x.n - 1) (h3 : allW zs = true) (hq : ds[p]? = some q) : entAt x ds (p + 1) (y, zs) = decide (q.1 < y) := by
 unfold entAt
 rw [h1, h3]
 have : ds.getD (p + 1 - 1) (0, []) = q := by rw [Nat.add_sub_cancel, List.getD_eq_getElem?_getD, hq]; rfl
 simp only [h2, decide_true, Bool.true_and, this]
 simp

theorem l6Dirty_any (w : World) (G : TypeId) (x : ArrN) (am ad : Option Addr) (nm cm nd cd : Nat) (ds : List (Int × List Int)) (h0 : (tWrS G).Rd w [.slice ad nd cd] ds) (hw : wtWrS ds <= 2097152) (hg : geoB x.n x.s = true) :
 Calls Tryz.prog 133 #[.agg #[.int .i64 x.id, .int .i64 x.n, .int .i64 x.s, .slice am nm cm, .int .i64 x.lost, .int .i64 x.built, .int .i64 x.seq, .int .i64 x.tail, .int .i64 x.gen, .slice ad nd cd, .int .i64 x.fuse, .bool x.down, .bool x.broken]] w fun e w' => e = .returned (.bool (entsB x ds)) /\ Below w.heap.size w w' := by
 obtain ⟨hl, hc, hm⟩ := row_length h0
 obtain ⟨g1, g2, g3, g4⟩ := geoB_iff.1 hg
 have hA := new_below w (.cells #[.int .i64 x.id, .int .i64 x.n, .int .i64 x.s, .slice am nm cm, .int .i64 x.lost, .int .i64 x.built, .int .i64 x.seq, .int .i64 x.tail, .int .i64 x.gen, .slice ad nd cd, .int .i64 x.fuse, .bool x.down, .bool x.broken] 29)
 have X := Box.new w 29 #[.int .i64 x.id, .int .i64 x.n, .int .i64 x.s, .slice am nm cm, .int .i64 x.lost, .int .i64 x.built, .int .i64 x.seq, .int .i64 x.tail, .int .i64 x.gen, .slice ad nd cd, .int .i64 x.fuse, .bool x.down, .bool x.broken]
 have zA := X.lt
 have hnd : nd <= 2097152 := by unfold wtWrS at hw; omega
 have h1 := h0.below hA
 have hws : IntKind.i64.wrap (x.s - 1) = x.s - 1 := IntWalk.i64_in _ (by omega)
 have hwn : IntKind.i64.wrap (x.n - 1) = x.n - 1 := IntWalk.i64_in _ (by omega)
 go_enter Tryz.func133, Tryz.ntmps133
 go_wp2
 generalize w.alloc (.cells #[.int .i64 x.id, .int .i64 x.n, .int .i64 x.s, .slice am nm cm, .int .i64 x.lost, .int .i64 x.built, .int .i64 x.seq, .int .i64 x.tail, .int .i64 x.gen, .slice ad nd cd, .int .i64 x.fuse, .bool x.down, .bool x.broken] 29) = W at hA X zA h1 ⊢
 go_loopw [3] (fun i wr => ∃ j : Nat, j <= nd /\ i = .int .i64 j /\ (∀ (q : Nat) (d : Int × List Int), q < j -> ds[q]? = some d -> entAt x ds q d = true) /\ Below W.heap.size W wr) (fun i _ => nd - (intOf i).toNat)
 case atStart => exact ⟨0, Nat.zero_le _, rfl, fun q d hq => by omega, Below.refl _ _⟩
 case round =>
  obtain ⟨j, hj, rfl, hall, hb⟩ := hrel
  have Xr := X.below hb zA
  obtain ⟨k0, k1, k2, k3, k4, k5, k6, k7, k8, k9, k10, k11, k12⟩ := Xr.cells13
  by_cases hjn : j < nd
  . rcases pairs_at rfl h1 with h0' | ⟨b, off, rfl, hbl, hcs⟩
    . omega
    have hdj : ds[j]? = some (ds[j]'(by omega)) := List.getElem?_eq_getElem (by omega)
    generalize ds[j]'(by omega) = d at hdj
    obtain ⟨v0, v1, hv0, hv1, hrv⟩ := hcs j d hdj
    obtain ⟨rfl, hrw⟩ := wr_rd hrv
    obtain ⟨av, cv, rfl⟩ := row_shape hrw
    obtain ⟨y, zs⟩ := d
    simp only at hv0 hv1 hrw hrv
    have u0 := (hb.cell (p := ⟨b, off + j * 2, none⟩) hbl).trans hv0
    have u1 := (hb.cell (p := ⟨b, off + j * 2 + 1, none⟩) hbl).trans hv1
    have i1 : (0 : Int) <= (j : Int) := by omega
    have i2 : (j : Int) < (nd : Int) := by omega
    have hwz : zs.length <= 2097152 := Nat.le_trans (inner_le' hdj) hw
    have HDJ := hidden hdj
    have b1 := new_below wr (.cells #[.int .i64 y, .slice av zs.length cv] 86)
    have Y1 := Box.new wr 86 #[.int .i64 y, .slice av zs.length cv]
    have X1 := Xr.below b1 Xr.lt
    have RZ := (ints_rd ((hrw.below hb).below b1)).1
    have B1 := hb.trans (b1.mono hb.size)
    obtain ⟨y0, y1⟩ := Y1.cells2
    obtain ⟨e0, e1, e2, e3, e4, e5, e6, e7, e8, e9, e10, e11, e12⟩ := X1.cells13
    have hq : ∀ (p : Nat) (q : Int × List Int), ds[p]? = some q -> (wr.alloc (.cells #[.int .i64 y, .slice av zs.length cv] 86)).cell? ⟨b, off + p * 2, none⟩ = some (.int .i64 q.1) := fun p q hpq => by
     obtain ⟨c0, c1, hc0, hc1, hrc⟩ := hcs p q hpq
     obtain ⟨rfl, _⟩ := wr_rd hrc
     exact (B1.cell (p := ⟨b, off + p * 2, none⟩) hbl).trans hc0
    have HQ := hidden hq
    clear hcs hv0 hv1 hrv hrw hdj hq b1 e0 e3 e4 e5 e6 e7 e8 e10 e11 e12
    cases hI : inB y 0 (x.s - 1)
    . skip
      go_wp2_with fail
      generalize wr.alloc (.cells #[.int .i64 y, .slice av zs.length cv] 86) = w1 at X1 Y1 RZ B1 y0 y1 e1 e2 e9 HQ ⊢
      refine wp_region_held_drew (S := fun w' => w'.cell? ⟨wr.heap.size, 0, none⟩ = some (.int .i64 y) /\ w'.cell? ⟨wr.heap.size, 1, none⟩ = some (.slice av zs.length cv) /\ w'.cell? ⟨w.heap.size, 1, none⟩ = some (.int .i64 x.n) /\ w'.cell? ⟨w.heap.size, 2, none⟩ = some (.int .i64 x.s) /\ w'.cell? ⟨w.heap.size, 9, none⟩ = some (.slice (some ⟨b, off, none⟩) nd cd)) (by kernel_rfl) ?_ (fun hHeld => ?_)
      . exact ⟨y0, y1, e1, e2, e9⟩
      refine held_t 0 hHeld ?_
      refine held_t 1 hHeld ?_
      refine held_t 2 hHeld ?_
      refine held_t 3 hHeld ?_
      refine held_t 4 hHeld ?_
      refine held_t 5 hHeld ?_
      refine held_one (i := 6) (by kernel_rfl) rfl (by kernel_rfl) (fun K hK => ?_)
      go_simp
      refine (l1In_any _ _ _ _).mono ?_
      rintro e w2 ⟨rfl, hw2⟩
      subst hw2
      rw [hI]
      go_wp2_with fail
      clear hHeld
      refine hK.out _ _ ?_ (fun hHeld => ?_)
      . exact ⟨y0, y1, e1, e2, e9⟩
      clear hK K
      refine held_t 7 hHeld ?_
      refine held_t 8 hHeld ?_
      refine held_p 9 hHeld ?_
      refine held_p 10 hHeld ?_
      refine held_p 11 hHeld ?_
      refine held_p 12 hHeld ?_
      refine held_p 13 hHeld ?_
      refine held_p 14 hHeld ?_
      refine held_p 15 hHeld ?_
      refine held_p 16 hHeld ?_
      refine held_t 17 hHeld ?_
      refine held_t 18 hHeld ?_
      refine held_p 19 hHeld ?_
      refine held_p 20 hHeld ?_
      refine held_none (i := 21) (by kernel_rfl) rfl (by kernel_rfl) hHeld ?_
      simp only [Act.put, List.setIfInBounds_toArray, List.set_cons_zero, List.set_cons_succ]
      refine held_p 22 hHeld ?_
      refine held_t 23 hHeld ?_
      refine held_t 24 hHeld ?_
      refine held_p 25 hHeld ?_
      refine held_p 26 hHeld ?_
      refine held_p 27 hHeld ?_
      refine held_p 28 hHeld ?_
      refine held_p 29 hHeld ?_
      refine held_p 30 hHeld ?_
      refine held_p 31 hHeld ?_
      refine held_p 32 hHeld ?_
      refine held_p 33 hHeld ?_
      refine held_p 34 hHeld ?_
      refine held_p 35 hHeld ?_
      refine held_p 36 hHeld ?_
      refine held_p 37 hHeld ?_
      refine held_p 38 hHeld ?_
      refine held_t 39 hHeld ?_
      refine wpAnyH_done (by kernel_rfl) ?_ _
      clear hHeld
      have HB := hidden (hA.trans (B1.drew.mono hA.size))
      have HE := hidden (entsB_no (x := x) HDJ.out (entAt_1 hI))
      go_wp2
      go_ret
      exact ⟨ret_bool HE.out.symm, HB.out⟩
    . by_cases hL : (zs.length : Int) = x.n - 1
      . have hL1 : ((zs.length : Int) == x.n - 1) = true := by simpa using hL
        have hL2 : ((zs.length : Int) != x.n - 1) = false := by simpa using hL
        have HL := hidden hL
        clear hL
        cases hZ : allW zs
        . skip
          go_wp2_with fail
          generalize wr.alloc (.cells #[.int .i64 y, .slice av zs.length cv] 86) = w1 at X1 Y1 RZ B1 y0 y1 e1 e2 e9 HQ ⊢
          refine wp_region_held_drew (S := fun w' => w'.cell? ⟨wr.heap.size, 0, none⟩ = some (.int .i64 y) /\ w'.cell? ⟨wr.heap.size, 1, none⟩ = some (.slice av zs.length cv) /\ w'.cell? ⟨w.heap.size, 1, none⟩ = some (.int .i64 x.n) /\ w'.cell? ⟨w.heap.size, 2, none⟩ = some (.int .i64 x.s) /\ w'.cell? ⟨w.heap.size, 9, none⟩ = some (.slice (some ⟨b, off, none⟩) nd cd)) (by kernel_rfl) ?_ (fun hHeld => ?_)
          . exact ⟨y0, y1, e1, e2, e9⟩
          refine held_t 0 hHeld ?_
          refine held_t 1 hHeld ?_
          refine held_t 2 hHeld ?_
          refine held_t 3 hHeld ?_
          refine held_t 4 hHeld ?_
          refine held_t 5 hHeld ?_
          refine held_one (i := 6) (by kernel_rfl) rfl (by kernel_rfl) (fun K hK => ?_)
          go_simp
          refine (l1In_any _ _ _ _).mono ?_
          rintro e w2 ⟨rfl, hw2⟩
          subst hw2
          rw [hI]
          go_wp2_with fail
          clear hHeld
          refine hK.out _ _ ?_ (fun hHeld => ?_)
          . exact ⟨y0, y1, e1, e2, e9⟩
          clear hK K
          refine held_t 7 hHeld ?_
          refine held_t 8 hHeld ?_
          refine held_t 9 hHeld ?_
          refine held_t 10 hHeld ?_
          refine held_t 11 hHeld ?_
          refine held_t 12 hHeld ?_
          refine held_t 13 hHeld ?_
          refine held_t 14 hHeld ?_
          refine held_t 15 hHeld ?_
          refine held_t 16 hHeld ?_
          refine held_t 17 hHeld ?_
          refine held_t 18 hHeld ?_
          refine held_t 19 hHeld ?_
          refine held_t 20 hHeld ?_
          refine held_one (i := 21) (by kernel_rfl) rfl (by kernel_rfl) (fun K hK => ?_)
          go_simp
          refine (l1Words_any _ _ _ _ zs rfl RZ.draw hwz).mono ?_
          rintro e w2 ⟨rfl, hw2⟩
          subst hw2
          rw [hZ]
          go_wp2_with fail
          clear hHeld
          refine hK.out _ _ ?_ (fun hHeld => ?_)
          . exact ⟨y0, y1, e1, e2, e9⟩
          clear hK K
          refine held_t 22 hHeld ?_
          refine held_t 23 hHeld ?_
          refine held_t 24 hHeld ?_
          refine held_p 25 hHeld ?_
          refine held_p 26 hHeld ?_
          refine held_p 27 hHeld ?_
          refine held_p 28 hHeld ?_
          refine held_p 29 hHeld ?_
          refine held_p 30 hHeld ?_
          refine held_p 31 hHeld ?_
          refine held_p 32 hHeld ?_
          refine held_p 33 hHeld ?_
          refine held_p 34 hHeld ?_
          refine held_p 35 hHeld ?_
          refine held_p 36 hHeld ?_
          refine held_p 37 hHeld ?_
          refine held_p 38 hHeld ?_
          refine held_t 39 hHeld ?_
          refine wpAnyH_done (by kernel_rfl) ?_ _
          clear hHeld
          have HB := hidden (hA.trans (B1.drew.mono hA.size))
          have HE := hidden (entsB_no (x := x) HDJ.out (entAt_3 hZ))
          go_wp2
          go_ret
          exact ⟨ret_bool HE.out.symm, HB.out⟩
        . by_cases hj0 : j = 0
          . subst hj0
            simp only [Nat.zero_mul, Nat.add_zero] at u0 u1
            go_wp2_with fail
            generalize wr.alloc (.cells #[.int .i64 y, .slice av zs.length cv] 86) = w1 at X1 Y1 RZ B1 y0 y1 e1 e2 e9 HQ ⊢
            refine wp_region_held_drew (S := fun w' => w'.cell? ⟨wr.heap.size, 0, none⟩ = some (.int .i64 y) /\ w'.cell? ⟨wr.heap.size, 1, none⟩ = some (.slice av zs.length cv) /\ w'.cell? ⟨w.heap.size, 1, none⟩ = some (.int .i64 x.n) /\ w'.cell? ⟨w.heap.size, 2, none⟩ = some (.int .i64 x.s) /\ w'.cell? ⟨w.heap.size, 9, none⟩ = some (.slice (some ⟨b, off, none⟩) nd cd)) (by kernel_rfl) ?_ (fun hHeld => ?_)
            . exact ⟨y0, y1, e1, e2, e9⟩
            refine held_t 0 hHeld ?_
            refine held_t 1 hHeld ?_
            refine held_t 2 hHeld ?_
            refine held_t 3 hHeld ?_
            refine held_t 4 hHeld ?_
            refine held_t 5 hHeld ?_
            refine held_one (i := 6) (by kernel_rfl) rfl (by kernel_rfl) (fun K hK => ?_)
            go_simp
            refine (l1In_any _ _ _ _).mono ?_
            rintro e w2 ⟨rfl, hw2⟩
            subst hw2
            rw [hI]
            go_wp2_with fail
            clear hHeld
            refine hK.out _ _ ?_ (fun hHeld => ?_)
            . exact ⟨y0, y1, e1, e2, e9⟩
            clear hK K
            refine held_t 7 hHeld ?_
            refine held_t 8 hHeld ?_
            refine held_t 9 hHeld ?_
            refine held_t 10 hHeld ?_
            refine held_t 11 hHeld ?_
            refine held_t 12 hHeld ?_
            refine held_t 13 hHeld ?_
            refine held_t 14 hHeld ?_
            refine held_t 15 hHeld ?_
            refine held_t 16 hHeld ?_
            refine held_t 17 hHeld ?_
            refine held_t 18 hHeld ?_
            refine held_t 19 hHeld ?_
            refine held_t 20 hHeld ?_
            refine held_one (i := 21) (by kernel_rfl) rfl (by kernel_rfl) (fun K hK => ?_)
            go_simp
            refine (l1Words_any _ _ _ _ zs rfl RZ.draw hwz).mono ?_
            rintro e w2 ⟨rfl, hw2⟩
            subst hw2
            rw [hZ]
            go_wp2_with fail
            clear hHeld
            refine hK.out _ _ ?_ (fun hHeld => ?_)
            . exact ⟨y0, y1, e1, e2, e9⟩
            clear hK K
            refine held_t 22 hHeld ?_
            refine held_t 23 hHeld ?_
            refine held_t 24 hHeld ?_
            refine held_t 25 hHeld ?_
            refine held_t 26 hHeld ?_
            refine held_t 27 hHeld ?_
            refine held_p 28 hHeld ?_
            refine held_p 29 hHeld ?_
            refine held_p 30 hHeld ?_
            refine held_p 31 hHeld ?_
            refine held_p 32 hHeld ?_
            refine held_p 33 hHeld ?_
            refine held_p 34 hHeld ?_
            refine held_p 35 hHeld ?_
            refine held_p 36 hHeld ?_
            refine held_p 37 hHeld ?_
            refine held_t 38 hHeld ?_
            refine held_t 39 hHeld ?_
            refine wpAnyH_done (by kernel_rfl) ?_ _
            clear hHeld
            have HB := hidden B1.drew
            have hat : entAt x ds (0) (y, zs) = true := entAt_4 hI HL.out hZ
            go_wp2
            go_roundw
            case rel => exact ⟨0 + 1, by omega, by go_num, fun q d hq hm' => by
             rcases Nat.lt_or_ge q (0) with h | h
             . exact hall q d h hm'
             . obtain rfl : q = 0 := by omega
               rw [HDJ.out] at hm'
               cases hm'
               exact hat, HB.out⟩
            case measure => simp [intOf]; omega
          . obtain ⟨p, rfl⟩ : ∃ p, j = p + 1 := ⟨j - 1, by omega⟩
            have hpq : ds[p]? = some (ds[p]'(by omega)) := List.getElem?_eq_getElem (by omega)
            generalize ds[p]'(by omega) = q at hpq
            have hE := entAt_5 hI HL.out hZ hpq
            have qc := HQ.out p q hpq
            obtain ⟨s, zq⟩ := q
            simp only at qc hE
            have HE5 := hidden hE
            clear hpq hE
            have j1 : IntKind.i64.wrap (((p + 1 : Nat) : Int) - 1) = (p : Int) := by rw [IntWalk.i64_in _ (by omega)]; omega
            have j2 : IntKind.i64.wrap ((p : Int) + 1 - 1) = (p : Int) := by rw [IntWalk.i64_in _ (by omega)]; omega
            have j3 : IntKind.i64.wrap (p : Int) = (p : Int) := IntWalk.i64_in _ (by omega)
            have j4 : (0 : Int) <= (p : Int) := by omega
            have j5 : (p : Int) < (nd : Int) := by omega
            have j6 : (0 : Int) < ((p + 1 : Nat) : Int) := by omega
            by_cases hlt : s < y
            . have hd1 : decide (s < y) = true := by simpa using hlt
              have hge : ¬ y <= s := by omega
              go_wp2_with fail
              generalize wr.alloc (.cells #[.int .i64 y, .slice av zs.length cv] 86) = w1 at X1 Y1 RZ B1 y0 y1 e1 e2 e9 HQ qc ⊢
              refine wp_region_held_drew (S := fun w' => w'.cell? ⟨wr.heap.size, 0, none⟩ = some (.int .i64 y) /\ w'.cell? ⟨wr.heap.size, 1, none⟩ = some (.slice av zs.length cv) /\ w'.cell? ⟨w.heap.size, 1, none⟩ = some (.int .i64 x.n) /\ w'.cell? ⟨w.heap.size, 2, none⟩ = some (.int .i64 x.s) /\ w'.cell? ⟨w.heap.size, 9, none⟩ = some (.slice (some ⟨b, off, none⟩) nd cd) /\ w'.cell? ⟨b, off + p * 2, none⟩ = some (.int .i64 s)) (by kernel_rfl) ?_ (fun hHeld => ?_)
              . exact ⟨y0, y1, e1, e2, e9, qc⟩
              refine held_t 0 hHeld ?_
              refine held_t 1 hHeld ?_
              refine held_t 2 hHeld ?_
              refine held_t 3 hHeld ?_
              refine held_t 4 hHeld ?_
              refine held_t 5 hHeld ?_
              refine held_one (i := 6) (by kernel_rfl) rfl (by kernel_rfl) (fun K hK => ?_)
              go_simp
              refine (l1In_any _ _ _ _).mono ?_
              rintro e w2 ⟨rfl, hw2⟩
              subst hw2
              rw [hI]
              go_wp2_with fail
              clear hHeld
              refine hK.out _ _ ?_ (fun hHeld => ?_)
              . exact ⟨y0, y1, e1, e2, e9, qc⟩
              clear hK K
              refine held_t 7 hHeld ?_
              refine held_t 8 hHeld ?_
              refine held_t 9 hHeld ?_
              refine held_t 10 hHeld ?_
              refine held_t 11 hHeld ?_
              refine held_t 12 hHeld ?_
              refine held_t 13 hHeld ?_
              refine held_t 14 hHeld ?_
              refine held_t 15 hHeld ?_
              refine held_t 16 hHeld ?_
              refine held_t 17 hHeld ?_
              refine held_t 18 hHeld ?_
              refine held_t 19 hHeld ?_
              refine held_t 20 hHeld ?_
              refine held_one (i := 21) (by kernel_rfl) rfl (by kernel_rfl) (fun K hK => ?_)
              go_simp
              refine (l1Words_any _ _ _ _ zs rfl RZ.draw hwz).mono ?_
              rintro e w2 ⟨rfl, hw2⟩
              subst hw2
              rw [hZ]
              go_wp2_with fail
              clear hHeld
              refine hK.out _ _ ?_ (fun hHeld => ?_)
              . exact ⟨y0, y1, e1, e2, e9, qc⟩
              clear hK K
              refine held_t 22 hHeld ?_
              refine held_t 23 hHeld ?_
              refine held_t 24 hHeld ?_
              refine held_t 25 hHeld ?_
              refine held_t 26 hHeld ?_
              refine held_t 27 hHeld ?_
              refine held_t 28 hHeld ?_
              refine held_t 29 hHeld ?_
              refine held_t 30 hHeld ?_
              refine held_t 31 hHeld ?_
              refine held_t 32 hHeld ?_
              refine held_t 33 hHeld ?_
              refine held_t 34 hHeld ?_
              refine held_t 35 hHeld ?_
              refine held_t 36 hHeld ?_
              refine held_t 37 hHeld ?_
              refine held_t 38 hHeld ?_
              refine held_t 39 hHeld ?_
              refine wpAnyH_done (by kernel_rfl) ?_ _
              clear hHeld
              have HB := hidden B1.drew
              have hat : entAt x ds (p + 1) (y, zs) = true := HE5.out.trans hd1
              go_wp2
              go_roundw
              case rel => exact ⟨p + 1 + 1, by omega, by go_num, fun q d hq hm' => by
               rcases Nat.lt_or_ge q (p + 1) with h | h
               . exact hall q d h hm'
               . obtain rfl : q = p + 1 := by omega
                 rw [HDJ.out] at hm'
                 cases hm'
                 exact hat, HB.out⟩
              case measure => simp [intOf]; omega
            . have hd1 : decide (s < y) = false := by simpa using hlt
              have hge : y <= s := by omega
              go_wp2_with fail
              generalize wr.alloc (.cells #[.int .i64 y, .slice av zs.length cv] 86) = w1 at X1 Y1 RZ B1 y0 y1 e1 e2 e9 HQ qc ⊢
              refine wp_region_held_drew (S := fun w' => w'.cell? ⟨wr.heap.size, 0, none⟩ = some (.int .i64 y) /\ w'.cell? ⟨wr.heap.size, 1, none⟩ = some (.slice av zs.length cv) /\ w'.cell? ⟨w.heap.size, 1, none⟩ = some (.int .i64 x.n) /\ w'.cell? ⟨w.heap.size, 2, none⟩ = some (.int .i64 x.s) /\ w'.cell? ⟨w.heap.size, 9, none⟩ = some (.slice (some ⟨b, off, none⟩) nd cd) /\ w'.cell? ⟨b, off + p * 2, none⟩ = some (.int .i64 s)) (by kernel_rfl) ?_ (fun hHeld => ?_)
              . exact ⟨y0, y1, e1, e2, e9, qc⟩
              refine held_t 0 hHeld ?_
              refine held_t 1 hHeld ?_
              refine held_t 2 hHeld ?_
              refine held_t 3 hHeld ?_
              refine held_t 4 hHeld ?_
              refine held_t 5 hHeld ?_
              refine held_one (i := 6) (by kernel_rfl) rfl (by kernel_rfl) (fun K hK => ?_)
              go_simp
              refine (l1In_any _ _ _ _).mono ?_
              rintro e w2 ⟨rfl, hw2⟩
              subst hw2
              rw [hI]
              go_wp2_with fail
              clear hHeld
              refine hK.out _ _ ?_ (fun hHeld => ?_)
              . exact ⟨y0, y1, e1, e2, e9, qc⟩
              clear hK K
              refine held_t 7 hHeld ?_
              refine held_t 8 hHeld ?_
              refine held_t 9 hHeld ?_
              refine held_t 10 hHeld ?_
              refine held_t 11 hHeld ?_
              refine held_t 12 hHeld ?_
              refine held_t 13 hHeld ?_
              refine held_t 14 hHeld ?_
              refine held_t 15 hHeld ?_
              refine held_t 16 hHeld ?_
              refine held_t 17 hHeld ?_
              refine held_t 18 hHeld ?_
              refine held_t 19 hHeld ?_
              refine held_t 20 hHeld ?_
              refine held_one (i := 21) (by kernel_rfl) rfl (by kernel_rfl) (fun K hK => ?_)
              go_simp
              refine (l1Words_any _ _ _ _ zs rfl RZ.draw hwz).mono ?_
              rintro e w2 ⟨rfl, hw2⟩
              subst hw2
              rw [hZ]
              go_wp2_with fail
              clear hHeld
              refine hK.out _ _ ?_ (fun hHeld => ?_)
              . exact ⟨y0, y1, e1, e2, e9, qc⟩
              clear hK K
              refine held_t 22 hHeld ?_
              refine held_t 23 hHeld ?_
              refine held_t 24 hHeld ?_
              refine held_t 25 hHeld ?_
              refine held_t 26 hHeld ?_
              refine held_t 27 hHeld ?_
              refine held_t 28 hHeld ?_
              refine held_t 29 hHeld ?_
              refine held_t 30 hHeld ?_
              refine held_t 31 hHeld ?_
              refine held_t 32 hHeld ?_
              refine held_t 33 hHeld ?_
              refine held_t 34 hHeld ?_
              refine held_t 35 hHeld ?_
              refine held_t 36 hHeld ?_
              refine held_t 37 hHeld ?_
              refine held_t 38 hHeld ?_
              refine held_t 39 hHeld ?_
              refine wpAnyH_done (by kernel_rfl) ?_ _
              clear hHeld
              have HB := hidden (hA.trans (B1.drew.mono hA.size))
              have HE := hidden (entsB_no (x := x) HDJ.out (HE5.out.trans hd1))
              go_wp2
              go_ret
              exact ⟨ret_bool HE.out.symm, HB.out⟩
      . have hL1 : ((zs.length : Int) == x.n - 1) = false := by simpa using hL
        have hL2 : ((zs.length : Int) != x.n - 1) = true := by simpa using hL
        have HL := hidden hL
        clear hL
        go_wp2_with fail
        generalize wr.alloc (.cells #[.int .i64 y, .slice av zs.length cv] 86) = w1 at X1 Y1 RZ B1 y0 y1 e1 e2 e9 HQ ⊢
        refine wp_region_held_drew (S := fun w' => w'.cell? ⟨wr.heap.size, 0, none⟩ = some (.int .i64 y) /\ w'.cell? ⟨wr.heap.size, 1, none⟩ = some (.slice av zs.length cv) /\ w'.cell? ⟨w.heap.size, 1, none⟩ = some (.int .i64 x.n) /\ w'.cell? ⟨w.heap.size, 2, none⟩ = some (.int .i64 x.s) /\ w'.cell? ⟨w.heap.size, 9, none⟩ = some (.slice (some ⟨b, off, none⟩) nd cd)) (by kernel_rfl) ?_ (fun hHeld => ?_)
        . exact ⟨y0, y1, e1, e2, e9⟩
        refine held_t 0 hHeld ?_
        refine held_t 1 hHeld ?_
        refine held_t 2 hHeld ?_
        refine held_t 3 hHeld ?_
        refine held_t 4 hHeld ?_
        refine held_t 5 hHeld ?_
        refine held_one (i := 6) (by kernel_rfl) rfl (by kernel_rfl) (fun K hK => ?_)
        go_simp
        refine (l1In_any _ _ _ _).mono ?_
        rintro e w2 ⟨rfl, hw2⟩
        subst hw2
        rw [hI]
        go_wp2_with fail
        clear hHeld
        refine hK.out _ _ ?_ (fun hHeld => ?_)
        . exact ⟨y0, y1, e1, e2, e9⟩
        clear hK K
        refine held_t 7 hHeld ?_
        refine held_t 8 hHeld ?_
        refine held_t 9 hHeld ?_
        refine held_t 10 hHeld ?_
        refine held_t 11 hHeld ?_
        refine held_t 12 hHeld ?_
        refine held_t 13 hHeld ?_
        refine held_t 14 hHeld ?_
        refine held_t 15 hHeld ?_
        refine held_t 16 hHeld ?_
        refine held_t 17 hHeld ?_
        refine held_t 18 hHeld ?_
        refine held_p 19 hHeld ?_
        refine held_p 20 hHeld ?_
        refine held_none (i := 21) (by kernel_rfl) rfl (by kernel_rfl) hHeld ?_
        simp only [Act.put, List.setIfInBounds_toArray, List.set_cons_zero, List.set_cons_succ]
        refine held_p 22 hHeld ?_
        refine held_t 23 hHeld ?_
        refine held_t 24 hHeld ?_
        refine held_p 25 hHeld ?_
        refine held_p 26 hHeld ?_
        refine held_p 27 hHeld ?_
        refine held_p 28 hHeld ?_
        refine held_p 29 hHeld ?_
        refine held_p 30 hHeld ?_
        refine held_p 31 hHeld ?_
        refine held_p 32 hHeld ?_
        refine held_p 33 hHeld ?_
        refine held_p 34 hHeld ?_
        refine held_p 35 hHeld ?_
        refine held_p 36 hHeld ?_
        refine held_p 37 hHeld ?_
        refine held_p 38 hHeld ?_
        refine held_t 39 hHeld ?_
        refine wpAnyH_done (by kernel_rfl) ?_ _
        clear hHeld
        have HB := hidden (hA.trans (B1.drew.mono hA.size))
        have HE := hidden (entsB_no (x := x) HDJ.out (entAt_2 HL.out))
        go_wp2
        go_ret
        exact ⟨ret_bool HE.out.symm, HB.out⟩
  . have ej : j = nd := by omega
    subst ej
    have hAll : entsB x ds = true := allIx_iff.2 (fun q d hq => hall q d (by have := (List.getElem?_eq_some_iff.1 hq).1; omega) hq)
    have HB := hidden (hA.trans (hb.mono hA.size))
    go_wp2
    go_ret
    exact ⟨ret_bool hAll.symm, HB.out⟩

def liveB (x : ArrN) (ms : List MemD) (m s : Int) : Bool := inB m 0 ((ms.length : Int) - 1) && (!(ms.getD m.toNat ([], [], false, [])).2.2.1 && (!decide (m = x.lost) || decide (s < x.built)))

theorem specArrOk_any (w : World) (E F G : TypeId) (x : ArrN) (am ad : Option Addr) (nm cm nd cd : Nat) (ms : List MemD) (ds : List (Int × List Int)) (h0 : (tMemS E F).Rd w [.slice am nm cm] ms) (h1 : (tWrS G).Rd w [.slice ad nd cd] ds) (hw : wtArr ms ds <= 2097152) :
 Calls Tryz.prog 63 #[.agg #[.int .i64 x.id, .int .i64 x.n, .int .i64 x.s, .slice am nm cm, .int .i64 x.lost, .int .i64 x.built, .int .i64 x.seq, .int .i64 x.tail, .int .i64 x.gen, .slice ad nd cd, .int .i64 x.fuse, .bool x.down, .bool x.broken]] w fun e w' => e = .returned (.bool (arrB x ms ds)) /\ Below w.heap.size w w' := by
 have hwm : wtMemS ms <= 2097152 := by unfold wtArr at hw; omega
 have hwd : wtWrS ds <= 2097152 := by unfold wtArr at hw; omega
 have hA := new_below w (.cells #[.int .i64 x.id, .int .i64 x.n, .int .i64 x.s, .slice am nm cm, .int .i64 x.lost, .int .i64 x.built, .int .i64 x.seq, .int .i64 x.tail, .int .i64 x.gen, .slice ad nd cd, .int .i64 x.fuse, .bool x.down, .bool x.broken] 29)
 have X := Box.new w 29 #[.int .i64 x.id, .int .i64 x.n, .int .i64 x.s, .slice am nm cm, .int .i64 x.lost, .int .i64 x.built, .int .i64 x.seq, .int .i64 x.tail, .int .i64 x.gen, .slice ad nd cd, .int .i64 x.fuse, .bool x.down, .bool x.broken]
 obtain ⟨k0, k1, k2, k3, k4, k5, k6, k7, k8, k9, k10, k11, k12⟩ := X.cells13
 have zA := X.lt
 have r0 := h0.below hA
 have r1 := h1.below hA
 go_enter Tryz.func63, Tryz.ntmps63
 go_wp2_with fail
 generalize w.alloc (.cells #[.int .i64 x.id, .int .i64 x.n, .int .i64 x.s, .slice am nm cm, .int .i64 x.lost, .int .i64 x.built, .int .i64 x.seq, .int .i64 x.tail, .int .i64 x.gen, .slice ad nd cd, .int .i64 x.fuse, .bool x.down, .bool x.broken] 29) = W at hA X zA r0 r1 k0 k1 k2 k3 k4 k5 k6 k7 k8 k9 k10 k11 k12 ⊢
 refine (specGeoOk_any _ _ _).mono ?_
 rintro e w1 ⟨rfl, b1⟩
 have X1 := X.below b1 X.lt
 have B1 := Below.andThen hA b1
 have q1 := r0.below b1
 have t1 := r1.below b1
 clear k0 k1 k2 k3 k4 k5 k6 k7 k8 k9 k10 k11 k12 b1 hA X r0 r1
 obtain ⟨k0, k1, k2, k3, k4, k5, k6, k7, k8, k9, k10, k11, k12⟩ := X1.cells13
 cases hg : geoB x.n x.s
 . skip
   have HF : Hid (arrB x ms ds = false) := by unfold Hid arrB; simp [hg]
   go_wp2
   go_ret
   exact ⟨ret_bool HF.out.symm, B1⟩
 . obtain ⟨g1, g2, g3, g4⟩ := geoB_iff.1 hg
   have hws : IntKind.i64.wrap (x.n - 1) = x.n - 1 := IntWalk.i64_in _ (by omega)
   go_wp2_with fail
   refine (l1In_any _ _ _ _).mono ?_
   rintro e wq ⟨rfl, hq⟩
   obtain rfl := hq.symm
   cases hid : inB x.id 1 60000
   . skip
     have HF : Hid (arrB x ms ds = false) := by unfold Hid arrB; simp [hid]
     go_wp2
     go_ret
     exact ⟨ret_bool HF.out.symm, B1⟩
   . skip
     go_wp2_with fail
     refine (l6Mems_any _ E F x _ _ _ _ _ _ ms q1 hwm hg).mono ?_
     rintro e w2 ⟨rfl, b2⟩
     have X2 := X1.below b2 X1.lt
     have B2 := Below.andThen B1 b2
     have q2 := q1.below b2
     have t2 := t1.below b2
     clear k0 k1 k2 k3 k4 k5 k6 k7 k8 k9 k10 k11 k12 b2 B1 X1 q1 t1
     obtain ⟨k0, k1, k2, k3, k4, k5, k6, k7, k8, k9, k10, k11, k12⟩ := X2.cells13
     cases hms : memsB x ms
     . skip
       have HF : Hid (arrB x ms ds = false) := by unfold Hid arrB; simp [hms]
       go_wp2
       go_ret
       exact ⟨ret_bool HF.out.symm, B2⟩
     . skip
       go_wp2_with fail
       refine (l6Dirty_any _ G x _ _ _ _ _ _ ds t2 hwd hg).mono ?_
       rintro e w3 ⟨rfl, b3⟩
       have X3 := X2.below b3 X2.lt
       have B3 := Below.andThen B2 b3
       have q3 := q2.below b3
       have t3 := t2.below b3
       clear k0 k1 k2 k3 k4 k5 k6 k7 k8 k9 k10 k11 k12 b3 B2 X2 q2 t2
       obtain ⟨k0, k1, k2, k3, k4, k5, k6, k7, k8, k9, k10, k11, k12⟩ := X3.cells13
       cases hds : entsB x ds
       . skip
         have HF : Hid (arrB x ms ds = false) := by unfold Hid arrB; simp [hds]
         go_wp2
         go_ret
         exact ⟨ret_bool HF.out.symm, B3⟩
       . skip
         go_wp2_with fail
         refine (l1In_any _ _ _ _).mono ?_
         rintro e wq ⟨rfl, hq⟩
         obtain rfl := hq.symm
         cases hlo : inB x.lost (-1) (x.n - 1)
         . skip
           have HF : Hid (arrB x ms ds = false) := by unfold Hid arrB; simp [lostB6, hlo]
           go_wp2
           go_ret
           exact ⟨ret_bool HF.out.symm, B3⟩
         . skip
           go_wp2_with fail
           refine (l1In_any _ _ _ _).mono ?_
           rintro e wq ⟨rfl, hq⟩
           obtain rfl := hq.symm
           cases hbu : inB x.built 0 x.s
           . skip
             have HF : Hid (arrB x ms ds = false) := by unfold Hid arrB; simp [lostB6, hbu]
             go_wp2
             go_ret
             exact ⟨ret_bool HF.out.symm, B3⟩
           . skip
             have hlb : (x.lost = -1 /\ ¬ x.built = 0) ∨ (x.lost = -1 /\ x.built = 0) ∨ ¬ x.lost = -1 := by omega
             have HLB : Hid (lostB6 x = (!decide (x.lost = -1) || decide (x.built = 0))) := by unfold Hid lostB6; rw [hlo, hbu]; simp
             rcases hlb with ⟨l1, l2⟩ | ⟨l1, l2⟩ | l1
             . have e1 : (x.lost == -1) = true := by simpa using l1
               have e2 : (x.built != 0) = true := by simpa using l2
               have e3 : (x.built == 0) = false := by simpa using l2
               have hL : lostB6 x = false := by rw [HLB.out]; simp [l1, l2]
               rw [l1] at k4
               have HF : Hid (arrB x ms ds = false) := by unfold Hid arrB; simp [hL]
               clear hL l1 l2
               go_wp2
               go_ret
               exact ⟨ret_bool HF.out.symm, B3⟩
             . have e1 : (x.lost == -1) = true := by simpa using l1
               have e2 : (x.built != 0) = false := by simpa using l2
               have e3 : (x.built == 0) = true := by simpa using l2
               have HLT : Hid (lostB6 x = true) := by unfold Hid; rw [HLB.out]; simp [l2]
               rw [l1] at k4
               rw [l2] at k5
               clear l1 l2
               have HT : Hid (arrB x ms ds = seqB6 x) := by unfold Hid arrB; rw [hg, hid, hms, hds, HLT.out]; rfl
               go_wp2_with fail
               refine (l1In_any _ _ _ _).mono ?_
               rintro e wq ⟨rfl, hq⟩
               obtain rfl := hq.symm
               cases ht : inB x.tail 0 60000
               . have HF : Hid (arrB x ms ds = false) := by unfold Hid; rw [HT.out]; unfold seqB6; simp [ht]
                 go_wp2
                 go_ret
                 exact ⟨ret_bool HF.out.symm, B3⟩
               . skip
                 have ht2 : 0 <= x.tail /\ x.tail <= 60000 := by unfold inB at ht; simpa using ht
                 have hw4 : IntKind.i64.wrap (x.tail + 4) = x.tail + 4 := IntWalk.i64_in _ (by omega)
                 go_wp2_with fail
                 refine (l1In_any _ _ _ _).mono ?_
                 rintro e wq ⟨rfl, hq⟩
                 obtain rfl := hq.symm
                 cases hs : inB x.seq x.tail 60000
                 . have HF : Hid (arrB x ms ds = false) := by unfold Hid; rw [HT.out]; unfold seqB6; simp [hs]
                   go_wp2
                   go_ret
                   exact ⟨ret_bool HF.out.symm, B3⟩
                 . skip
                   by_cases hle : x.seq <= x.tail + 4
                   . skip
                     go_wp2_with fail
                     refine (l1In_any _ _ _ _).mono ?_
                     rintro e wq ⟨rfl, hq⟩
                     obtain rfl := hq.symm
                     cases hge : inB x.gen 0 60000
                     . have HF : Hid (arrB x ms ds = false) := by unfold Hid; rw [HT.out]; unfold seqB6; simp [hge]
                       go_wp2
                       go_ret
                       exact ⟨ret_bool HF.out.symm, B3⟩
                     . skip
                       have HF : Hid (arrB x ms ds = inB x.fuse (-1) 1000) := by unfold Hid; rw [HT.out]; unfold seqB6; simp [ht, hs, hle, hge]
                       go_wp2_with fail
                       refine (l1In_any _ _ _ _).mono ?_
                       rintro e wq ⟨rfl, hq⟩
                       obtain rfl := hq.symm
                       cases hfu : inB x.fuse (-1) 1000
                       . go_wp2
                         go_ret
                         exact ⟨ret_bool (by rw [HF.out, hfu]), B3⟩
                       . go_wp2
                         go_ret
                         exact ⟨ret_bool (by rw [HF.out, hfu]), B3⟩
                   . have HF : Hid (arrB x ms ds = false) := by unfold Hid; rw [HT.out]; unfold seqB6; simp; omega
                     have hgt : x.tail + 4 < x.seq := by omega
                     go_wp2
                     go_ret
                     exact ⟨ret_bool HF.out.symm, B3⟩
             . have e1 : (x.lost == -1) = false := by simpa using l1
               have HLT : Hid (lostB6 x = true) := by unfold Hid; rw [HLB.out]; simp [l1]
               clear l1
               have HT : Hid (arrB x ms ds = seqB6 x) := by unfold Hid arrB; rw [hg, hid, hms, hds, HLT.out]; rfl
               go_wp2_with fail
               refine (l1In_any _ _ _ _).mono ?_
               rintro e wq ⟨rfl, hq⟩
               obtain rfl := hq.symm
               cases ht : inB x.tail 0 60000
               . have HF : Hid (arrB x ms ds = false) := by unfold Hid; rw [HT.out]; unfold seqB6; simp [ht]
                 go_wp2
                 go_ret
                 exact ⟨ret_bool HF.out.symm, B3⟩
               . skip
                 have ht2 : 0 <= x.tail /\ x.tail <= 60000 := by unfold inB at ht; simpa using ht
                 have hw4 : IntKind.i64.wrap (x.tail + 4) = x.tail + 4 := IntWalk.i64_in _ (by omega)
                 go_wp2_with fail
                 refine (l1In_any _ _ _ _).mono ?_
                 rintro e wq ⟨rfl, hq⟩
                 obtain rfl := hq.symm
                 cases hs : inB x.seq x.tail 60000
                 . have HF : Hid (arrB x ms ds = false) := by unfold Hid; rw [HT.out]; unfold seqB6; simp [hs]
                   go_wp2
                   go_ret
                   exact ⟨ret_bool HF.out.symm, B3⟩
                 . skip
                   by_cases hle : x.seq <= x.tail + 4
                   . skip
                     go_wp2_with fail
                     refine (l1In_any _ _ _ _).mono ?_
                     rintro e wq ⟨rfl, hq⟩
                     obtain rfl := hq.symm
                     cases hge : inB x.gen 0 60000
                     . have HF : Hid (arrB x ms ds = false) := by unfold Hid; rw [HT.out]; unfold seqB6; simp [hge]
                       go_wp2
                       go_ret
                       exact ⟨ret_bool HF.out.symm, B3⟩
                     . skip
                       have HF : Hid (arrB x ms ds = inB x.fuse (-1) 1000) := by unfold Hid; rw [HT.out]; unfold seqB6; simp [ht, hs, hle, hge]
                       go_wp2_with fail
                       refine (l1In_any _ _ _ _).mono ?_
                       rintro e wq ⟨rfl, hq⟩
                       obtain rfl := hq.symm
                       cases hfu : inB x.fuse (-1) 1000
                       . go_wp2
                         go_ret
                         exact ⟨ret_bool (by rw [HF.out, hfu]), B3⟩
                       . go_wp2
                         go_ret
                         exact ⟨ret_bool (by rw [HF.out, hfu]), B3⟩
                   . have HF : Hid (arrB x ms ds = false) := by unfold Hid; rw [HT.out]; unfold seqB6; simp; omega
                     have hgt : x.tail + 4 < x.seq := by omega
                     go_wp2
                     go_ret
                     exact ⟨ret_bool HF.out.symm, B3⟩

theorem specLiveAt_any (w : World) (E F : TypeId) (x : ArrN) (am ad : Option Addr) (nm cm nd cd : Nat) (ms : List MemD) (m s : Int) (h0 : (tMemS E F).Rd w [.slice am nm cm] ms) (hw : wtMemS ms <= 2097152) :
 Calls Tryz.prog 178 #[.agg #[.int .i64 x.id, .int .i64 x.n, .int .i64 x.s, .slice am nm cm, .int .i64 x.lost, .int .i64 x.built, .int .i64 x.seq, .int .i64 x.tail, .int .i64 x.gen, .slice ad nd cd, .int .i64 x.fuse, .bool x.down, .bool x.broken], .int .i64 m, .int .i64 s] w fun e w' => e = .returned (.bool (liveB x ms m s)) /\ Below w.heap.size w w' := by
 obtain ⟨hl, hc, hm⟩ := row_length h0
 have hnm : nm <= 2097152 := by unfold wtMemS at hw; omega
 have hA := new_below w (.cells #[.int .i64 x.id, .int .i64 x.n, .int .i64 x.s, .slice am nm cm, .int .i64 x.lost, .int .i64 x.built, .int .i64 x.seq, .int .i64 x.tail, .int .i64 x.gen, .slice ad nd cd, .int .i64 x.fuse, .bool x.down, .bool x.broken] 29)
 have X := Box.new w 29 #[.int .i64 x.id, .int .i64 x.n, .int .i64 x.s, .slice am nm cm, .int .i64 x.lost, .int .i64 x.built, .int .i64 x.seq, .int .i64 x.tail, .int .i64 x.gen, .slice ad nd cd, .int .i64 x.fuse, .bool x.down, .bool x.broken]
 obtain ⟨k0, k1, k2, k3, k4, k5, k6, k7, k8, k9, k10, k11, k12⟩ := X.cells13
 have h1 := h0.below hA
 have hwn : IntKind.i64.wrap ((nm : Int) - 1) = (nm : Int) - 1 := IntWalk.i64_in _ (by omega)
 go_enter Tryz.func178, Tryz.ntmps178
 go_wp2_with fail
 generalize w.alloc (.cells #[.int .i64 x.id, .int .i64 x.n, .int .i64 x.s, .slice am nm cm, .int .i64 x.lost, .int .i64 x.built, .int .i64 x.seq, .int .i64 x.tail, .int .i64 x.gen, .slice ad nd cd, .int .i64 x.fuse, .bool x.down, .bool x.broken] 29) = W at hA X h1 k0 k1 k2 k3 k4 k5 k6 k7 k8 k9 k10 k11 k12 ⊢
 refine (l1In_any _ _ _ _).mono ?_
 rintro e wq ⟨rfl, hq⟩
 obtain rfl := hq.symm
 cases hi : inB m 0 ((nm : Int) - 1)
 . have HF : Hid (liveB x ms m s = false) := by unfold Hid liveB; rw [hl, hi]; rfl
   go_wp2
   go_ret
   exact ⟨ret_bool HF.out.symm, hA⟩
 . have hi2 : 0 <= m /\ m <= (nm : Int) - 1 := by unfold inB at hi; simpa using hi
   obtain ⟨j, rfl⟩ := Int.eq_ofNat_of_zero_le hi2.1
   rcases quads_at rfl h1 with h0' | ⟨b, off, rfl, hbl, hcs⟩
   . omega
   have hdj : ms[j]? = some (ms[j]'(by omega)) := List.getElem?_eq_getElem (by omega)
   generalize ms[j]'(by omega) = d at hdj
   obtain ⟨v0, v1, v2, v3, hv0, hv1, hv2, hv3, hrv⟩ := hcs j d hdj
   obtain ⟨a0, c0, a1, c1, a3, c3, ss, cs, f, bs, rfl, rfl, rfl, rfl, rfl, r0, r1, r3⟩ := mem_at hrv
   have i1 : (0 : Int) <= (j : Int) := by omega
   have i2 : (j : Int) < (nm : Int) := by omega
   have HD : Hid (liveB x ms (j : Int) s = (!f && (!decide ((j : Int) = x.lost) || decide (s < x.built)))) := by
    unfold Hid liveB
    rw [hl, hi, Int.toNat_natCast, List.getD_eq_getElem?_getD, hdj]
    rfl
   clear hcs hv0 hv1 hv3 hrv r0 r1 r3 hdj
   cases f
   . by_cases hj : (j : Int) = x.lost
     . have e1 : ((j : Int) == x.lost) = true := by simpa using hj
       have e2 : ((j : Int) != x.lost) = false := by simpa using hj
       have HF : Hid (liveB x ms (j : Int) s = decide (s < x.built)) := by unfold Hid; rw [HD.out]; simp [hj]
       clear hj
       go_wp2
       go_ret
       exact ⟨ret_bool HF.out.symm, hA⟩
     . have e1 : ((j : Int) == x.lost) = false := by simpa using hj
       have e2 : ((j : Int) != x.lost) = true := by simpa using hj
       have HF : Hid (liveB x ms (j : Int) s = true) := by unfold Hid; rw [HD.out]; simp [hj]
       clear hj
       go_wp2
       go_ret
       exact ⟨ret_bool HF.out.symm, hA⟩
   . have HF : Hid (liveB x ms (j : Int) s = false) := by unfold Hid; rw [HD.out]; rfl
     go_wp2
     go_ret
     exact ⟨ret_bool HF.out.symm, hA⟩

theorem row_set1 {t : Ty} {E : TypeId} {w : World} {g n cap j : Nat} {d : List t.D} {v : Value} {x : t.D} {fp f : List Nat} (ht : t.n = 1) (h : (rowTy t E).Mine w [.slice (some ⟨g, 0, none⟩) n cap] d fp)
 (hj : j < n) (hx : t.Mine w [v] x f) (hdis : ∀ b ∈ f, b ∉ fp) :
 (∃ old, w.cell? ⟨g, j, none⟩ = some old) /\ w.frozen? ⟨g, j, none⟩ = false /\ g ∈ fp /\ ∃ fp', (rowTy t E).Mine (w.setCell ⟨g, j, none⟩ v) [.slice (some ⟨g, 0, none⟩) n cap] (d.set j x) fp' /\ ∀ b ∈ fp', b ∈ fp ∨ b ∈ f := by
 obtain ⟨h, hn⟩ := h
 obtain ⟨hx, hn'⟩ := hx
 rcases h with ⟨h1, _⟩ | ⟨b, cap', cur, fps, h1, h2, h3, h4, h5, h6, h7, h8⟩
 . simp at h1
 . simp only [List.cons.injEq, Value.slice.injEq, Option.some.injEq, Addr.mk.injEq, and_true] at h1
   obtain ⟨rfl, rfl, rfl⟩ := h1
   have hgp : g ∈ fp := by rw [h6]; exact List.mem_cons_self
   have hjc : j < cur.size := by rw [h5, ht]; omega
   have hgf' : g ∉ f := fun hm => hdis g hm hgp
   rw [h6, List.nodup_cons] at hn
   obtain ⟨hgf, hnf⟩ := hn
   have hd2 : ∀ b ∈ f, b ∉ fps.flatten := fun b hb hbl => hdis b hb (by rw [h6]; exact List.mem_cons_of_mem _ hbl)
   obtain ⟨hsn, hsm⟩ := flatten_set_nodup fps j f hnf hn' hd2
   have hoth : ∀ b, b ≠ g -> (w.setCell ⟨g, j, none⟩ v).heap[b]? = w.heap[b]? := fun b hb => Below.heap_setCell _ _ _ _ hb
   have hsz : w.heap.size <= (w.setCell ⟨g, j, none⟩ v).heap.size := by simp
   refine ⟨⟨cur[j], ?_⟩, frozen_of_row w g j cur E h4, hgp, g :: (fps.set j f).flatten, ⟨.inr ⟨g, cap, cur.setIfInBounds j v, fps.set j f, by rw [List.length_set], by rw [List.length_set]; exact h2, h3, heap_setCell_same w g j cur E v h4, by simpa using h5, rfl, by rw [List.length_set, List.length_set]; exact h7, fun i y hy => ?_⟩, ?_⟩, ?_⟩
   . rw [cell_of_row w g j cur E (0, 0) h4, Array.getElem?_eq_getElem hjc]
   . by_cases hij : i = j
     . subst hij
       have hyx : y = x := by
        rw [List.getElem?_set_self (by omega)] at hy
        simpa using hy.symm
       subst hyx
       refine ⟨f, List.getElem?_set_self (by rw [h7]; omega), ?_⟩
       have e : ((cur.setIfInBounds i v).toList.drop (i * t.n)).take t.n = [v] := by
        rw [ht, Nat.mul_one, Array.toList_setIfInBounds, List.drop_set, if_neg (by omega), Nat.sub_self, List.drop_eq_getElem_cons (by simpa using hjc), List.set_cons_zero]
        simp
       rw [e]
       exact t.owKept hx (fun b hb => hoth b (fun e => hgf' (e ▸ hb))) hsz
     . rw [List.getElem?_set_ne (fun e => hij e.symm)] at hy
       obtain ⟨f2, hf, ho⟩ := h8 i y hy
       refine ⟨f2, by rw [List.getElem?_set_ne (fun e => hij e.symm)]; exact hf, ?_⟩
       have e : ((cur.setIfInBounds j v).toList.drop (i * t.n)).take t.n = (cur.toList.drop (i * t.n)).take t.n := by
        rw [ht, Nat.mul_one, Array.toList_setIfInBounds]
        apply List.ext_getElem?
        intro k
        rw [List.getElem?_take, List.getElem?_take, List.getElem?_drop, List.getElem?_drop]
        by_cases hk : k < 1
        . rw [if_pos hk, if_pos hk, List.getElem?_set_ne (by omega)]
        . rw [if_neg hk, if_neg hk]
       rw [e]
       exact t.owKept ho (fun b hb => hoth b (fun e' => hgf (by rw [← e']; exact List.mem_flatten.2 ⟨f2, List.mem_of_getElem? hf, hb⟩))) hsz
   . rw [List.nodup_cons]
     refine ⟨fun hm => ?_, hsn⟩
     rcases hsm g hm with hm | hm
     . exact hgf' hm
     . exact hgf hm
   . intro b hb
     rcases List.mem_cons.1 hb with rfl | hb
     . exact .inl hgp
     . rcases hsm b hb with hb | hb
       . exact .inr hb
       . exact .inl (by rw [h6]; exact List.mem_cons_of_mem _ hb)

theorem flatten_apart : ∀ (fs : List (List Nat)) (i j : Nat) (f f' : List Nat), fs.flatten.Nodup -> fs[i]? = some f -> fs[j]? = some f' -> i < j -> ∀ b ∈ f, b ∉ f'
 | [], i, _, _, _, _, h, _, _ => by simp at h
 | g :: fs, 0, j + 1, f, f', hn, hi, hj, _ => by
  simp at hi
  subst hi
  rw [List.flatten_cons, List.nodup_append] at hn
  intro b hb hb'
  refine hn.2.2 b hb b (List.mem_flatten.2 ⟨f', List.mem_of_getElem? (i := j) (by simpa using hj), hb'⟩) rfl
 | g :: fs, i + 1, j + 1, f, f', hn, hi, hj, hij => by
  rw [List.flatten_cons, List.nodup_append] at hn
  exact flatten_apart fs i j f f' hn.2.1 (by simpa using hi) (by simpa using hj) (by omega)
 | g :: fs, i, 0, f, f', _, _, _, hij => by omega

theorem row_parts {t : Ty} {E : TypeId} {w : World} {g n cap : Nat} {d : List t.D} {fp : List Nat} (h : (rowTy t E).Mine w [.slice (some ⟨g, 0, none⟩) n cap] d fp) :
 g ∈ fp /\ ∃ F : Nat -> List Nat, (∀ i x, d[i]? = some x -> ∃ cs, t.Mine w cs x (F i) /\ g ∉ F i /\ (∀ b ∈ F i, b ∈ fp) /\ ∀ k, k < t.n -> w.cell? ⟨g, i * t.n + k, none⟩ = cs[k]?) /\ ∀ i j, i < j -> j < d.length -> ∀ b ∈ F i, b ∉ F j := by
 obtain ⟨h, hn⟩ := h
 rcases h with ⟨h1, _⟩ | ⟨b, cap', cur, fps, h1, h2, h3, h4, h5, h6, h7, h8⟩
 . simp at h1
 . simp only [List.cons.injEq, Value.slice.injEq, Option.some.injEq, Addr.mk.injEq, and_true] at h1
   obtain ⟨rfl, rfl, rfl⟩ := h1
   rw [h6, List.nodup_cons] at hn
   obtain ⟨hgf, hnf⟩ := hn
   refine ⟨by rw [h6]; exact List.mem_cons_self, fun i => fps.getD i [], fun i x hx => ?_, fun i j hij hj b hb hb' => ?_⟩
   . obtain ⟨f, hf, ho⟩ := h8 i x hx
     obtain ⟨k1, k2, _⟩ := flatten_part hnf hf
     have hgd : fps.getD i [] = f := by rw [List.getD_eq_getElem?_getD, hf]; rfl
     simp only [hgd]
     refine ⟨_, ⟨ho, k1⟩, fun hm => hgf (k2 g hm), fun b hb => by rw [h6]; exact List.mem_cons_of_mem _ (k2 b hb), fun k hk => ?_⟩
     rw [cell_of_row w g _ cur E (0, 0) h4, List.getElem?_take, if_pos hk, List.getElem?_drop]
     simp
   . have e1 : fps[i]? = some (fps.getD i []) := by rw [List.getD_eq_getElem?_getD, List.getElem?_eq_getElem (by omega)]; rfl
     have e2 : fps[j]? = some (fps.getD j []) := by rw [List.getD_eq_getElem?_getD, List.getElem?_eq_getElem (by omega)]; rfl
     exact flatten_apart fps i j _ _ hnf e1 e2 hij b hb hb'

end Go.Proofs.YtianjijbmiebgaaGreat

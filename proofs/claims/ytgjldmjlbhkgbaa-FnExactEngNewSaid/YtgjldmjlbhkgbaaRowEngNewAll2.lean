/-
  Plain lemmas on a region that draws its order and whose store may come up ahead of an operation that reads nothing: a condition on the world is held behind every operation as long as the store hasn't come up. No condition; nothing of the program is named here.
-/
import Derived.Test.YtgjldmjlbhkgbaaWalkArr
import Derived.Test.YtgjldmjlbhkgbaaWalkMemOk
import Derived.Test.YtgjldmjlbhkgbaaWalkSecOk
import Derived.Test.YtgjldmjlbhkgbaaHeld
import Derived.Test.YtgjldmjlbhkgbaaWalkImplMemOk
import Derived.Test.YtgjldmjlbhkgbaaWalkGeo
import Derived.Test.YtgjldmjlbhkgbaaWalkSuper
import Derived.Test.YtgjldmjlbhkgbaaLawSlotOf
import Derived.Test.YtgjldmjlbhkgbaaOrder
import Derived.OrdersHeld
import Derived.RegionTactic

/-
  What it is that an array is right (arrB), and the walks of the specification's look for it: disk by disk, entry by entry. Condition: it weighs at most 2097152.
-/
namespace Go.Proofs.Ytgjldmjlbhkgbaa
open Go.RowKit

/-- Every element of a list, with its place. -/
def allIx {α : Type} (p : Nat → α → Bool) (l : List α) : Bool := (List.range l.length).all fun i => (l[i]?.map (p i)).getD true
theorem allIx_iff {α : Type} {p : Nat → α → Bool} {l : List α} : allIx p l = true ↔ ∀ (i : Nat) (x : α), l[i]? = some x → p i x = true := by
  unfold allIx
  rw [List.all_eq_true]
  constructor
  · intro h i x hx
    have := h i (by rw [List.mem_range]; exact (List.getElem?_eq_some_iff.1 hx).1)
    rw [hx] at this
    simpa using this
  · intro h i hi
    cases hx : l[i]? with
    | none => rfl
    | some x => simpa using h i x hx
theorem allIx_no {α : Type} {p : Nat → α → Bool} {l : List α} {i : Nat} {x : α} (hx : l[i]? = some x) (h : p i x = false) : allIx p l = false := by
  cases hb : allIx p l with
  | false => rfl
  | true => rw [allIx_iff.1 hb i x hx] at h; cases h

def memAt (x : ArrN) (i : Nat) (m : MemD) : Bool := memB m.1 m.2.1 m.2.2.2 && (decide ((m.1.length : Int) = 6 + x.s) && (!m.2.2.1 || (decide ((i : Int) = x.lost) || x.broken)))
def memsB (x : ArrN) (ms : List MemD) : Bool := allIx (memAt x) ms && decide ((ms.length : Int) = x.n)
def entAt (x : ArrN) (ds : List (Int × List Int)) (i : Nat) (e : Int × List Int) : Bool := inB e.1 0 (x.s - 1) && (decide ((e.2.length : Int) = x.n - 1) && (allW e.2 && (decide (i = 0) || decide ((ds.getD (i - 1) (0, [])).1 < e.1))))
def entsB (x : ArrN) (ds : List (Int × List Int)) : Bool := allIx (entAt x ds) ds
def lostB6 (x : ArrN) : Bool := inB x.lost (-1) (x.n - 1) && (inB x.built 0 x.s && (!decide (x.lost = -1) || decide (x.built = 0)))
def seqB6 (x : ArrN) : Bool := inB x.tail 0 60000 && (inB x.seq x.tail 60000 && (decide (x.seq ≤ x.tail + 4) && (inB x.gen 0 60000 && inB x.fuse (-1) 1000)))
def arrB (x : ArrN) (ms : List MemD) (ds : List (Int × List Int)) : Bool := geoB x.n x.s && (inB x.id 1 60000 && (memsB x ms && (entsB x ds && (lostB6 x && seqB6 x))))

theorem l6Secs_any (w : World) (n s : Int) (hs : 1 ≤ s ∧ s ≤ 8) : Calls Try.prog 30 #[.agg #[.int .i64 n, .int .i64 s]] w fun e w' => e = .returned (.int .i64 (6 + s)) ∧ Below w.heap.size w w' := by
  have hA := new_below w (.cells #[.int .i64 n, .int .i64 s] 24)
  obtain ⟨k0, k1⟩ := (Gbox.new w 24 n s).cells
  have hw : IntKind.i64.wrap (6 + s) = 6 + s := IntWalk.i64_in _ (by omega)
  go_enter Try.func30, Try.ntmps30
  go_wp2
  go_ret
  exact ⟨rfl, hA⟩

end Go.Proofs.Ytgjldmjlbhkgbaa

/-
  The walks of the specification's looks at an array's entries, at the array as a whole, and whether a disk of it lives. Condition: it weighs at most 2097152.
-/
namespace Go.Proofs.Ytgjldmjlbhkgbaa
open Go.RowKit

theorem entsB_no {x : ArrN} {ds : List (Int × List Int)} {i : Nat} {d : Int × List Int} (hx : ds[i]? = some d) (h : entAt x ds i d = false) : entsB x ds = false := allIx_no hx h
theorem entAt_1 {x : ArrN} {ds : List (Int × List Int)} {i : Nat} {y : Int} {zs : List Int} (h : inB y 0 (x.s - 1) = false) : entAt x ds i (y, zs) = false := by unfold entAt; rw [h]; rfl
theorem entAt_2 {x : ArrN} {ds : List (Int × List Int)} {i : Nat} {y : Int} {zs : List Int} (h : ¬ (zs.length : Int) = x.n - 1) : entAt x ds i (y, zs) = false := by unfold entAt; simp [h]
theorem entAt_3 {x : ArrN} {ds : List (Int × List Int)} {i : Nat} {y : Int} {zs : List Int} (h : allW zs = false) : entAt x ds i (y, zs) = false := by unfold entAt; simp [h]
theorem entAt_4 {x : ArrN} {ds : List (Int × List Int)} {y : Int} {zs : List Int} (h1 : inB y 0 (x.s - 1) = true) (h2 : (zs.length : Int) = x.n - 1) (h3 : allW zs = true) : entAt x ds 0 (y, zs) = true := by unfold entAt; simp [h1, h2, h3]
theorem entAt_5 {x : ArrN} {ds : List (Int × List Int)} {p : Nat} {y : Int} {zs : List Int} {q : Int × List Int} (h1 : inB y 0 (x.s - 1) = true) (h2 : (zs.length : Int) = x.n - 1) (h3 : allW zs = true) (hq : ds[p]? = some q) : entAt x ds (p + 1) (y, zs) = decide (q.1 < y) := by
  unfold entAt
  rw [h1, h3]
  have : ds.getD (p + 1 - 1) (0, []) = q := by rw [Nat.add_sub_cancel, List.getD_eq_getElem?_getD, hq]; rfl
  simp only [h2, decide_true, Bool.true_and, this]
  simp

end Go.Proofs.Ytgjldmjlbhkgbaa

/-
  The walks of the program's look whether an array is right: disk by disk, entry by entry, and as a whole. Condition: it weighs at most 2097152.
-/
namespace Go.Proofs.Ytgjldmjlbhkgbaa
open Go.RowKit

def recB6 (x : ArrN) : Bool := inB x.seq 0 60000 && (inB x.tail 0 60000 && inB (x.seq - x.tail) 0 4)
theorem lost_same6 {x : ArrN} (hg : geoB x.n x.s = true) : lostB x.n x.s x.lost x.built = lostB6 x := by
  obtain ⟨g1, g2, g3, g4⟩ := geoB_iff.1 hg
  rw [Bool.eq_iff_iff, lostB_iff]
  unfold lostB6
  simp only [Bool.and_eq_true, inB_iff, Bool.or_eq_true, Bool.not_eq_true', decide_eq_false_iff_not, decide_eq_true_eq]
  omega
theorem seq_same6 (x : ArrN) : seqB6 x = (inB x.gen 0 60000 && (inB x.fuse (-1) 1000 && recB6 x)) := by
  rw [Bool.eq_iff_iff]
  unfold seqB6 recB6
  simp only [Bool.and_eq_true, inB_iff, decide_eq_true_eq]
  omega
theorem arr_same6 {x : ArrN} {ms : List MemD} {ds : List (Int × List Int)} (hg : geoB x.n x.s = true) : arrB x ms ds = (inB x.id 1 60000 && (lostB x.n x.s x.lost x.built && (inB x.gen 0 60000 && (inB x.fuse (-1) 1000 && (memsB x ms && (recB6 x && entsB x ds)))))) := by
  unfold arrB
  rw [hg, lost_same6 hg, seq_same6]
  cases inB x.id 1 60000 <;> cases lostB6 x <;> cases inB x.gen 0 60000 <;> cases inB x.fuse (-1) 1000 <;> cases memsB x ms <;> cases recB6 x <;> cases entsB x ds <;> rfl
theorem stripe_in6 {x : ArrN} {y : Int} (hg : geoB x.n x.s = true) : stripeB x.n x.s y = inB y 0 (x.s - 1) := by unfold stripeB; rw [hg]; rfl
theorem sec_all6 {zs : List Int} (h : zs.length ≤ 12) : secB zs = allW zs := by unfold secB; simp [h]
theorem entAt_6 {x : ArrN} {ds : List (Int × List Int)} {p : Nat} {y : Int} {zs : List Int} {q : Int × List Int} (hq : ds[p]? = some q) (h : y ≤ q.1) : entAt x ds (p + 1) (y, zs) = false := by
  have : ds.getD (p + 1 - 1) (0, []) = q := by rw [Nat.add_sub_cancel, List.getD_eq_getElem?_getD, hq]; rfl
  unfold entAt
  rw [this]
  have h2 : ¬ q.1 < y := by omega
  simp [h2]

theorem sectorsOf_any (w : World) (n s : Int) (hs : 1 ≤ s ∧ s ≤ 8) : Calls Try.prog 52 #[.agg #[.int .i64 n, .int .i64 s]] w fun e w' => e = .returned (.int .i64 (6 + s)) ∧ Below w.heap.size w w' := by
  have hA := new_below w (.cells #[.int .i64 n, .int .i64 s] 24)
  obtain ⟨k0, k1⟩ := (Gbox.new w 24 n s).cells
  have hd : dataN s = 6 + s := by unfold dataN; split <;> omega
  have HD := hidden hd
  clear hd
  go_enter Try.func52, Try.ntmps52
  go_wp2_with fail
  refine (implDataAt_any _ _).mono ?_
  rintro e w1 ⟨rfl, h1⟩
  subst h1
  rw [HD.out]
  go_wp2
  go_ret
  exact ⟨rfl, hA⟩

end Go.Proofs.Ytgjldmjlbhkgbaa

namespace Go.Proofs.Ytgjldmjlbhkgbaa
open Go.RowKit

/-- Whatever comes up next from here on; behind each operation but number k this holds of the world, as long as k hasn't come up. -/
def Late (P : Program) (ops : Array Oper) (Q : Exit → Act → World → Prop) (S : World → Prop) (k : Nat) : Nat → Array Bool → Act → World → Prop
  | 0, l, a, w => Region.ready .any ops l = [] ∧ Q .normal a w
  | n + 1, l, a, w => (Region.ready .any ops l = [] → Q .normal a w) ∧ ∀ j ∈ Region.ready .any ops l, wpOp P ops Q j (fun a' w' => (j ≠ k → l.getD k true = false → S w') ∧ Late P ops Q S k n (l.setIfInBounds j true) a' w') a w

section
variable {P : Program} {ops : Array Oper} {Q : Exit → Act → World → Prop} {S : World → Prop} {k : Nat}

theorem Late.any : ∀ (n : Nat) (l : Array Bool) (a : Act) (w : World), Late P ops Q S k n l a w → wpAny P .any ops Q n l a w
  | 0, _, _, _, h => h
  | n + 1, _, _, _, h => ⟨h.1, fun j hj => wpOp_mono (fun a' w' h' => Late.any n _ a' w' h'.2) (h.2 j hj)⟩

/-- The beginning. -/
theorem Late.start {id : Nat} {a : Act} {w : World} (hm : P.follows .mixedOrders = true) (h : Late P ops Q S k ops.size (Array.replicate ops.size false) a w.drew) : (Code.region id ops true).wp P Q a w :=
  wp_region_any hm (Late.any _ _ _ _ h)

theorem Late.first {i : Nat} {oi ok : Oper} {v : Value} (hi : ops[i]? = some oi) (hk : ops[k]? = some ok) (hki : ∃ e ∈ ok.after, Region.binds .any e = true ∧ e.on = i)
    (hsel : ∀ (j : Nat) (o : Oper) cs b, ops[j]? = some o → o.op ≠ .select cs b) (hQ : ∀ c a w, Q (.panic c) (a.put oi.dst v) w → Q (.panic c) a w) (n : Nat) :
    ∀ (l : Array Bool) (a : Act) (w : World),
      (∀ j oj, ops[j]? = some oj → j ≠ i → l.getD j true = false → (∀ e ∈ oj.after, Region.binds .any e = true → e.on ≠ i) → oi.apart ops oj = true) →
      l.getD k true = false → i ∈ Region.ready .any ops l → YieldsIf P ops S oi v a → S w → Late P ops Q S k n (l.setIfInBounds i true) (a.put oi.dst v) w → Late P ops Q S k (n + 1) l a w := by
  induction n with
  | zero =>
    intro l a w _ hkl hr hy hS H
    constructor
    · intro h
      rw [h] at hr
      simp at hr
    · intro j hj
      by_cases hji : j = i
      · rw [hji]
        exact hy.wpOp hi hS ⟨fun _ _ => hS, H⟩
      · have h2 := ready_mono (i := i) hj hji
        rw [H.1] at h2
        simp at h2
  | succ n ih =>
    intro l a w hfree hkl hr hy hS H
    constructor
    · intro h
      rw [h] at hr
      simp at hr
    · intro j hj
      by_cases hji : j = i
      · rw [hji]
        exact hy.wpOp hi hS ⟨fun _ _ => hS, H⟩
      · obtain ⟨hju, oj, hoj, hall⟩ := mem_ready.1 hj
        have hiu := (mem_ready.1 hr).1
        have hno : ∀ e ∈ oj.after, Region.binds .any e = true → e.on ≠ i := fun e he hb hon => unlisted hiu (hon ▸ hall e he hb)
        have hjk : j ≠ k := by
          intro hjk
          rw [hjk, hk] at hoj
          obtain ⟨e, he, hb, hon⟩ := hki
          cases hoj
          exact hno e he hb hon
        have h1 := H.2 j (ready_mono hj hji)
        have h2 := wpOp_putIf hoj (hfree j oj hoj hji hju hno) (fun cs b => hsel i oi cs b hi) (fun cs b => hsel j oj cs b hoj) hQ hy h1
        refine wpOp_mono ?_ h2
        intro a' w' h3
        have hik : i ≠ k := by
          intro hik
          obtain ⟨_, ok', hok', hall'⟩ := mem_ready.1 hr
          rw [hik, hk] at hok'
          obtain ⟨e, he, hb, hon⟩ := hki
          cases hok'
          exact unlisted hiu (hon ▸ hall' e he hb)
        have hS' := h3.2.1 hjk (by rw [getD_set_ne true hik]; exact hkl)
        refine ⟨fun _ _ => hS', ih _ a' w' ?_ (by rw [getD_set_ne true hjk]; exact hkl) (ready_mono hr (Ne.symm hji)) h3.1 hS' ?_⟩
        · intro m om hm hmi hun hnm
          refine hfree m om hm hmi ?_ hnm
          by_cases hjm : j = m
          · rw [← hjm]
            exact hju
          · rw [getD_set_ne true hjm] at hun
            exact hun
        · rw [Array.setIfInBounds_comm _ _ hji]
          exact h3.2.2

/-- Number i may be taken first: what it yields hangs on the condition alone. -/
theorem Late.take {i : Nat} {oi : Oper} {v : Value} {n : Nat} {l : Array Bool} {a : Act} {w : World} {tl : List Oper} (hi' : ops.toList.drop i = oi :: tl)
    (hki : ((ops[k]?).map fun o => o.after.any fun e => Region.binds .any e && e.on == i) = some true) (hs : Region.noSelect ops = true) (hf : Region.free .any ops l i = true) (hr : (Region.ready .any ops l).contains i = true)
    (hQ : ∀ c a w, Q (.panic c) (a.put oi.dst v) w → Q (.panic c) a w) (hy : YieldsIf P ops S oi v a) (hS : S w) (h : Late P ops Q S k n (l.setIfInBounds i true) (a.put oi.dst v) w) (hkl : l.getD k true = false := by kernel_rfl) : Late P ops Q S k (n + 1) l a w := by
  have hi := op_at hi'
  cases hk : ops[k]? with
  | none => rw [hk] at hki; cases hki
  | some ok =>
    rw [hk] at hki
    simp only [Option.map_some, Option.some.injEq, Array.any_eq_true', Bool.and_eq_true, beq_iff_eq] at hki
    exact Late.first hi hk hki (Region.noSelect_spec hs) hQ n l a w (Region.free_spec hi hf) hkl (by simpa using hr) hy hS h

/-- One alone may come up. -/
theorem Late.one {i : Nat} {o : Oper} {n : Nat} {l : Array Bool} {a : Act} {w : World} {tl : List Oper} (hr : Region.ready .any ops l = [i]) (ho : ops.toList.drop i = o :: tl)
    (h : ∀ K' : Act → World → Prop, Shut (∀ a w, (i ≠ k → S w) → Late P ops Q S k n (l.setIfInBounds i true) a w → K' a w) → if Region.wanted o (yielded ops a.tmps) = true then Oper.wp P o a w K' Q else K' (a.put o.dst undef) w) : Late P ops Q S k (n + 1) l a w := by
  constructor
  · intro h0
    rw [hr] at h0
    simp at h0
  · intro j hj
    rw [hr] at hj
    simp at hj
    rw [hj]
    exact wpOp_step (op_at ho) (fun K' hK => h K' (fun a w hS hW => hK a w ⟨fun h _ => hS h, hW⟩))

/-- One alone may come up, behind the store. -/
theorem Late.late {i : Nat} {o : Oper} {n : Nat} {l : Array Bool} {a : Act} {w : World} {tl : List Oper} (hr : Region.ready .any ops l = [i]) (ho : ops.toList.drop i = o :: tl) (hl : l.getD k true = true)
    (h : ∀ K' : Act → World → Prop, Shut (∀ a w, Late P ops Q S k n (l.setIfInBounds i true) a w → K' a w) → if Region.wanted o (yielded ops a.tmps) = true then Oper.wp P o a w K' Q else K' (a.put o.dst undef) w) : Late P ops Q S k (n + 1) l a w := by
  constructor
  · intro h0
    rw [hr] at h0
    simp at h0
  · intro j hj
    rw [hr] at hj
    simp at hj
    rw [hj]
    exact wpOp_step (op_at ho) (fun K' hK => h K' (fun a w hW => hK a w ⟨fun _ h0 => (by rw [hl] at h0; cases h0), hW⟩))

/-- One of two may come up. -/
theorem Late.two {i i' : Nat} {o o' : Oper} {n : Nat} {l : Array Bool} {a : Act} {w : World} {tl tl' : List Oper} (hr : Region.ready .any ops l = [i, i']) (ho : ops.toList.drop i = o :: tl) (ho' : ops.toList.drop i' = o' :: tl')
    (h : ∀ K' : Act → World → Prop, Shut (∀ a w, (i ≠ k → S w) → Late P ops Q S k n (l.setIfInBounds i true) a w → K' a w) → if Region.wanted o (yielded ops a.tmps) = true then Oper.wp P o a w K' Q else K' (a.put o.dst undef) w)
    (h' : ∀ K' : Act → World → Prop, Shut (∀ a w, (i' ≠ k → S w) → Late P ops Q S k n (l.setIfInBounds i' true) a w → K' a w) → if Region.wanted o' (yielded ops a.tmps) = true then Oper.wp P o' a w K' Q else K' (a.put o'.dst undef) w) : Late P ops Q S k (n + 1) l a w := by
  constructor
  · intro h0
    rw [hr] at h0
    simp at h0
  · intro j hj
    rw [hr] at hj
    simp only [List.mem_cons, List.not_mem_nil, or_false] at hj
    rcases hj with hj | hj
    · rw [hj]
      exact wpOp_step (op_at ho) (fun K' hK => h K' (fun a w hS hW => hK a w ⟨fun h _ => hS h, hW⟩))
    · rw [hj]
      exact wpOp_step (op_at ho') (fun K' hK => h' K' (fun a w hS hW => hK a w ⟨fun h _ => hS h, hW⟩))

/-- All have come up. -/
theorem Late.done {l : Array Bool} {a : Act} {w : World} (hr : Region.ready .any ops l = []) (h : Q .normal a w) : ∀ n, Late P ops Q S k n l a w
  | 0 => ⟨hr, h⟩
  | _ + 1 => ⟨fun _ => h, by rw [hr]; simp⟩

end

end Go.Proofs.Ytgjldmjlbhkgbaa

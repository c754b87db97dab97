/-
 The walks of the program's looks at an array's entries, at its records, and at the array as a whole. Condition: it weighs at most 2097152.
-/
import Derived.Test.YtechckninoilhaaGreatRowBuildAllAll8
import Derived.Test.YtechckninoilhaaGreatRowBuildAllAll9
import Derived.Test.YtechckninoilhaaGreatWalkGeo
import Derived.Test.YtechckninoilhaaGreatHeld
import Derived.Test.YtechckninoilhaaGreatWalkArrOk2
import Derived.Test.YtechckninoilhaaGreatRowBuildAllAll11
import Derived.Test.YtechckninoilhaaGreatWalkSuper

set_option maxRecDepth 100000
set_option maxHeartbeats 8000000
set_option linter.unusedSimpArgs false

namespace Go.Proofs.YtechckninoilhaaGreat
open Go.RowKit

def nextK (x : ArrN) (ms : List MemD) (ds : List (Int × List Int)) : Int := if ask8 x ms ds = 0 then (if (lostT x ms && decide (x.built ≠ x.s)) = true then (if wordsOk6 x ms ds x.built = true then 0 else 5) else 2) else ask8 x ms ds
def stepT (ds : List (Int × List Int)) (q : ArrN × List MemD) : (ArrN × List MemD) × Int := (turnQ (nextK q.1 q.2 ds) (stepA q) q, turnC (nextK q.1 q.2 ds) (stepA q))
def bstepO (x : ArrN) (ms : List MemD) (ds : List (Int × List Int)) : ArrN × List MemD := (stepT ds (x, ms)).1
def bstepC (x : ArrN) (ms : List MemD) (ds : List (Int × List Int)) : Int := (stepT ds (x, ms)).2
theorem eta_br {x : ArrN} (h : x.broken = false) : ({x with broken := false} : ArrN) = x := by cases x; simp_all
theorem next_zero {x : ArrN} {ms : List MemD} {ds : List (Int × List Int)} (h : nextK x ms ds = 0) : arrB x ms ds = true /\ x.down = false /\ lostT x ms = true /\ x.built ≠ x.s /\ x.broken = false /\ 0 <= x.built /\ x.built < x.s /\ wordsB x ms x.built = true /\ wordsL6 x ms ds x.built = words6 x ms x.built := by
 unfold nextK at h
 by_cases h0 : ask8 x ms ds = 0
 . rw [if_pos h0] at h
   cases hl : (lostT x ms && decide (x.built ≠ x.s))
   . rw [hl] at h; simp at h
   rw [hl, if_pos rfl] at h
   cases hw : wordsOk6 x ms ds x.built
   . rw [hw] at h; simp at h
   simp only [Bool.and_eq_true, decide_eq_true_eq] at hl
   unfold wordsOk6 at hw
   simp only [Bool.and_eq_true] at hw
   have hok := hw.1
   unfold okB6 at hok
   simp only [Bool.and_eq_true, Bool.not_eq_true', inB_iff] at hok
   obtain ⟨ha, hb, i1, i2⟩ := hok
   have he := eta_br hb
   refine ⟨ha, (ask_good h0).2, hl.1, hl.2, hb, i1, by omega, ?_, ?_⟩
   . rw [he] at hw; exact hw.2
   unfold wordsL6; rw [if_pos hw.1, he]
 rw [if_neg h0] at h; exact absurd h h0
theorem step_no {x : ArrN} {ms : List MemD} {ds : List (Int × List Int)} {c : Int} (h : nextK x ms ds = c) (hc : c ≠ 0) : bstepO x ms ds = (x, ms) /\ bstepC x ms ds = c := by
 unfold bstepO bstepC stepT turnQ turnC
 dsimp only
 rw [h, if_neg hc, if_neg hc]
 exact ⟨rfl, rfl⟩
theorem stepA_down {q : ArrN × List MemD} (h : wordsB q.1 q.2 q.1.built = true) : (stepA q).1.down = (stepQ q).1.down := by
 unfold stepA
 rw [if_pos h]
 cases hd : (stepQ q).1.down
 . rw [if_neg (by simp)]; exact hd
 rw [if_pos rfl]; exact hd
theorem step_yes {x : ArrN} {ms : List MemD} {ds : List (Int × List Int)} (h0 : ask8 x ms ds = 0) (hl : lostT x ms = true) (hb : x.built < x.s) (hbr : x.broken = false) : bstepO x ms ds = stepA (x, ms) /\ bstepC x ms ds = stepC (x, ms) := by
 have ha := (ask_good h0).1
 have p5 := (arr_split.1 ha).2.2.2.2.1
 unfold lostB6 at p5
 simp only [Bool.and_eq_true, inB_iff] at p5
 have hok : okB6 x ms ds x.built = true := by
  unfold okB6
  rw [ha, hbr]
  simp only [Bool.true_and, Bool.not_false, inB_iff]
  have := p5.2.1
  omega
 have hk : nextK x ms ds = if wordsB x ms x.built = true then 0 else 5 := by
  unfold nextK
  rw [if_pos h0, hl, decide_eq_true (show x.built ≠ x.s by omega), if_pos (show (true && true) = true from rfl)]
  unfold wordsOk6
  rw [hok, eta_br hbr]
  rfl
 cases hw : wordsB x ms x.built
 . rw [hw] at hk
   obtain ⟨e1, e2⟩ := step_no (c := 5) hk (by decide)
   rw [e1, e2]
   unfold stepA stepC
   rw [if_neg (by simp [hw]), if_neg (by simp [hw])]
   exact ⟨rfl, rfl⟩
 rw [hw] at hk
 unfold bstepO bstepC stepT turnQ turnC
 dsimp only
 rw [hk, if_pos rfl, if_pos rfl, if_pos rfl, stepA_down (q := (x, ms)) hw]
 refine ⟨rfl, ?_⟩
 unfold stepC
 rw [if_pos hw]
theorem step_keeps0 {q : ArrN × List MemD} (h : MsOk q.2) (hf : q.1.fuse <= 1000) : MsOk (stepA q).2 /\ (stepA q).2.length = q.2.length := by
 obtain ⟨a, _, c⟩ := runS_keeps (q := q) h hf [wrK (dataN q.1.built) [(words6 q.1 q.2 q.1.built).getD q.1.lost.toNat 0] q.1.lost.toNat]
 have a' : MsOk (stepQ q).2 := a
 have c' : (stepQ q).2.length = q.2.length := c
 unfold stepA
 split
 . split
   . exact ⟨a', c'⟩
   exact ⟨a', c'⟩
 exact ⟨h, rfl⟩
theorem stepT_keeps {ds : List (Int × List Int)} {q : ArrN × List MemD} (hd : wtWrS ds <= 2000000) (hw : wtArr q.2 ds <= 2097152) : wtArr (stepT ds q).1.2 ds <= 2097152 := by
 unfold stepT turnQ
 dsimp only
 split
 . rename_i h
   obtain ⟨fc, mk, _⟩ := arr_facts (next_zero h).1
   obtain ⟨a, c⟩ := step_keeps0 (q := q) mk fc
   exact light_keeps (next_zero h).1 a c hd
 exact hw

def adoptA (q : ArrN × List MemD) : ArrN × List MemD := if (checkS q).1.down = true then checkS q else markS ({(checkS q).1 with lost := -1, built := 0}, (checkS q).2)
def adoptT (ds : List (Int × List Int)) (q : ArrN × List MemD) : (ArrN × List MemD) × Int := (turnQ (adoptK q.1 q.2 ds) (adoptA q) q, turnC (adoptK q.1 q.2 ds) (adoptA q))
def adoptO (x : ArrN) (ms : List MemD) (ds : List (Int × List Int)) : ArrN × List MemD := (adoptT ds (x, ms)).1
def adoptC (x : ArrN) (ms : List MemD) (ds : List (Int × List Int)) : Int := (adoptT ds (x, ms)).2
theorem adopt_no {x : ArrN} {ms : List MemD} {ds : List (Int × List Int)} {c : Int} (h : adoptK x ms ds = c) (hc : c ≠ 0) : adoptO x ms ds = (x, ms) /\ adoptC x ms ds = c := by
 unfold adoptO adoptC adoptT turnQ turnC
 dsimp only
 rw [h, if_neg hc, if_neg hc]
 exact ⟨rfl, rfl⟩
theorem adopt_yes {x : ArrN} {ms : List MemD} {ds : List (Int × List Int)} (h : adoptK x ms ds = 0) : adoptO x ms ds = adoptA (x, ms) /\ adoptC x ms ds = dn12 (adoptA (x, ms)).1.down := by
 unfold adoptO adoptC adoptT turnQ turnC
 dsimp only
 rw [h, if_pos rfl, if_pos rfl]
 exact ⟨rfl, rfl⟩
theorem markS_same {q : ArrN × List MemD} (h : MsOk q.2) (hf : q.1.fuse <= 1000) : SameN {q.1 with gen := q.1.gen + 1} (markS q).1 := by
 obtain ⟨a, b, c⟩ := supsS_keeps (q := ({q.1 with gen := q.1.gen + 1}, q.2)) h hf q.2.length
 obtain ⟨_, b2, _⟩ := syncS_keeps (q := supsS ({q.1 with gen := q.1.gen + 1}, q.2) q.2.length) a b.2.2.2.2.2.2.2.2.2.1 q.2.length
 exact b.trans b2
theorem check_num {q : ArrN × List MemD} (h : MsOk q.2) (hf : q.1.fuse <= 1000) (hd : (checkS q).1.down = false) : (checkS q).1.id = q.1.id /\ (checkS q).1.n = q.1.n /\ (checkS q).1.s = q.1.s /\ (checkS q).1.tail = q.1.seq /\ (checkS q).1.gen = q.1.gen + 1 /\ (checkS q).1.fuse <= 1000 := by
 obtain ⟨a, b, c⟩ := syncS_keeps (q := q) h hf q.2.length
 unfold checkS at hd ⊢
 split at hd
 . rename_i h1
   rw [h1] at hd
   cases hd
 rename_i h1
 rw [if_neg h1]
 have k := markS_same (q := ({(syncS q q.2.length).1 with tail := (syncS q q.2.length).1.seq}, (syncS q q.2.length).2)) a b.2.2.2.2.2.2.2.2.2.1
 obtain ⟨a1, a2, a3, a4, a5, a6, a7, a8, a9, a10, a11⟩ := k
 obtain ⟨b1, b2, b3, b4, b5, b6, b7, b8, b9, b10, b11⟩ := b
 dsimp only at a1 a2 a3 a7 a8
 exact ⟨a1.trans b1, a2.trans b2, a3.trans b3, a7.trans b6, a8.trans (by rw [b8]), a10⟩
theorem adopt_keeps0 {q : ArrN × List MemD} (h : MsOk q.2) (hf : q.1.fuse <= 1000) : MsOk (adoptA q).2 /\ (adoptA q).2.length = q.2.length := by
 obtain ⟨a, c⟩ := checkS_keeps (q := q) h hf
 unfold adoptA
 split
 . exact ⟨a, c⟩
 rename_i hd
 have hn := check_num h hf (by simpa using hd)
 obtain ⟨a2, c2⟩ := markS_keeps (q := ({(checkS q).1 with lost := -1, built := 0}, (checkS q).2)) a hn.2.2.2.2.2
 exact ⟨a2, c2.trans c⟩
theorem adoptT_keeps {ds : List (Int × List Int)} {q : ArrN × List MemD} (hd : wtWrS ds <= 2000000) (hw : wtArr q.2 ds <= 2097152) : wtArr (adoptT ds q).1.2 ds <= 2097152 := by
 unfold adoptT turnQ
 dsimp only
 split
 . rename_i h
   obtain ⟨fc, mk, _⟩ := arr_facts (adopt_zero h).1
   obtain ⟨a, c⟩ := adopt_keeps0 (q := q) mk fc
   exact light_keeps (adopt_zero h).1 a c hd
 exact hw

def strN (n s : Int) : Int := if geoB n s = true then s else 0
theorem strN_of {n s : Int} (h : geoB n s = true) : strN n s = s := by unfold strN; rw [if_pos h]
theorem strN_not {n s : Int} (h : geoB n s = false) : strN n s = 0 := by unfold strN; rw [if_neg (by simp [h])]
theorem stripesOf_any (w : World) (n s : Int) : Calls Tryz.prog 55 #[.agg #[.int .i64 n, .int .i64 s]] w fun e w' => e = .returned (.int .i64 (strN n s)) /\ Below w.heap.size w w' := by
 have hA := new_below w (.cells #[.int .i64 n, .int .i64 s] 29)
 have X := Gbox.new w 29 n s
 obtain ⟨k0, k1⟩ := X.cells
 have zA := X.lt
 go_enter Tryz.func55, Tryz.ntmps55
 go_wp2_with fail
 refine (implGeoOk_any _ _ _).mono ?_
 rintro e w1 ⟨rfl, b1⟩
 have X1 := X.below b1 zA
 obtain ⟨q0, q1⟩ := X1.cells
 have FB := hidden (Below.andThen hA b1)
 clear k0 k1 X b1 hA zA
 cases hg : geoB n s
 . have HS := hidden (strN_not hg)
   go_wp2
   go_ret
   exact ⟨ret_int (by rw [HS.out]), FB.out⟩
 have HS := hidden (strN_of hg)
 go_wp2
 go_ret
 exact ⟨ret_int (by rw [HS.out]), FB.out⟩

def ballL (n : Nat) (ds : List (Int × List Int)) : List StM := spareT ds :: (List.replicate n (stepT ds) ++ [adoptT ds])
def ballT (ds : List (Int × List Int)) (q : ArrN × List MemD) : (ArrN × List MemD) × Int := runT (ballL (strN q.1.n q.1.s).toNat ds) q
def ballO (x : ArrN) (ms : List MemD) (ds : List (Int × List Int)) : ArrN × List MemD := (ballT ds (x, ms)).1
def ballC (x : ArrN) (ms : List MemD) (ds : List (Int × List Int)) : Int := (ballT ds (x, ms)).2
theorem runT_P {P : ArrN × List MemD -> Prop} : ∀ (fs : List StM) (q : ArrN × List MemD), P q -> (∀ f ∈ fs, ∀ q, P q -> P (f q).1) -> P (runT fs q).1
 | [], _, h, _ => h
 | f :: fs, q, h, hf => by
  unfold runT
  split
  . exact runT_P fs _ (hf f List.mem_cons_self q h) (fun g hg => hf g (List.mem_cons_of_mem _ hg))
  exact hf f List.mem_cons_self q h
theorem ballL_keeps {n : Nat} {ds : List (Int × List Int)} (hd : wtWrS ds <= 2000000) : ∀ f ∈ ballL n ds, ∀ q : ArrN × List MemD, wtArr q.2 ds <= 2097152 -> wtArr (f q).1.2 ds <= 2097152 := by
 intro f hf q hq
 unfold ballL at hf
 simp only [List.mem_cons, List.mem_append, List.mem_replicate, List.not_mem_nil, or_false] at hf
 rcases hf with rfl | ⟨_, rfl⟩ | rfl
 . exact spareT_keeps hd hq
 . exact stepT_keeps hd hq
 exact adoptT_keeps hd hq
theorem ballO_wt {x : ArrN} {ms : List MemD} {ds : List (Int × List Int)} (hw : wtArr ms ds <= 1048576) : wtArr (ballO x ms ds).2 ds <= 2097152 := by
 have hd : wtWrS ds <= 2000000 := by unfold wtArr at hw; omega
 exact runT_P (P := fun q => wtArr q.2 ds <= 2097152) _ (x, ms) (by dsimp only; omega) (ballL_keeps hd)
theorem ballL_at {n : Nat} {ds : List (Int × List Int)} {k : Nat} {f : StM} (h : (ballL n ds)[k]? = some f) : (k = 0 /\ f = spareT ds) ∨ (0 < k /\ k <= n /\ f = stepT ds) ∨ (k = n + 1 /\ f = adoptT ds) := by
 unfold ballL at h
 cases k with
 | zero => simp at h; exact .inl ⟨rfl, h.symm⟩
 | succ k =>
  rw [List.getElem?_cons_succ] at h
  by_cases hk : k < n
  . rw [List.getElem?_append_left (by simpa using hk), List.getElem?_replicate, if_pos hk] at h
    cases h
    exact .inr (.inl ⟨by omega, by omega, rfl⟩)
  rw [List.getElem?_append_right (by simp; omega), List.length_replicate] at h
  have hk2 : k - n = 0 := by
   have := (List.getElem?_eq_some_iff.1 h).1
   simp at this
   omega
  rw [hk2] at h
  simp at h
  exact .inr (.inr ⟨by omega, h.symm⟩)
theorem ballL_len (n : Nat) (ds : List (Int × List Int)) : (ballL n ds).length = n + 2 := by unfold ballL; simp

theorem perStripe_any (w : World) (n s : Int) (h1 : 3 <= n) (h2 : n <= 5) : Calls Tryz.prog 113 #[.agg #[.int .i64 n, .int .i64 s]] w fun e w' => e = .returned (.int .i64 (n - 1)) /\ Below w.heap.size w w' := by
 have hA := new_below w (.cells #[.int .i64 n, .int .i64 s] 29)
 obtain ⟨k0, k1⟩ := (Gbox.new w 29 n s).cells
 go_enter Tryz.func113, Tryz.ntmps113
 go_wp2
 go_ret
 exact ⟨ret_int (by first | rfl | omega), hA⟩

theorem stripeB_of {n s t : Int} : stripeB n s t = true ↔ geoB n s = true /\ 0 <= t /\ t < s := by unfold stripeB; rw [Bool.and_eq_true, inB_iff]; constructor <;> (rintro ⟨a, b⟩; exact ⟨a, by omega⟩)
theorem stripeB_not {n s t : Int} : stripeB n s t = false ↔ ¬ (geoB n s = true /\ 0 <= t /\ t < s) := by rw [← stripeB_of]; simp

theorem hasStripe_any (w : World) (n s t : Int) : Calls Tryz.prog 112 #[.agg #[.int .i64 n, .int .i64 s], .int .i64 t] w fun e w' => e = .returned (.bool (stripeB n s t)) /\ Below w.heap.size w w' := by
 have hA := new_below w (.cells #[.int .i64 n, .int .i64 s] 29)
 have X := Gbox.new w 29 n s
 obtain ⟨k0, k1⟩ := X.cells
 have zA := X.lt
 go_enter Tryz.func112, Tryz.ntmps112
 go_wp2_with fail
 refine (implGeoOk_any _ _ _).mono ?_
 rintro e w1 ⟨rfl, b1⟩
 have X1 := X.below b1 zA
 obtain ⟨p0, p1⟩ := X1.cells
 have B1 := Below.andThen hA b1
 clear k0 k1 X b1 hA zA
 by_cases hg : geoB n s = true
 . by_cases h1 : 0 <= t
   . by_cases h2 : t < s
     . go_wp2
       go_ret
       exact ⟨ret_bool (by symm; rw [stripeB_of]; exact ⟨hg, h1, h2⟩), B1⟩
     go_wp2
     go_ret
     exact ⟨ret_bool (by first | (exact (stripeB_not.2 (by omega)).symm) | (rw [stripeB_not.2 (by omega)]; simp; omega)), B1⟩
   go_wp2
   go_ret
   exact ⟨ret_bool (by first | (exact (stripeB_not.2 (by omega)).symm) | (rw [stripeB_not.2 (by omega)]; simp; omega)), B1⟩
 have hg : geoB n s = false := by simpa using hg
 go_wp2
 go_ret
 exact ⟨ret_bool (by symm; rw [stripeB_not]; simp [hg]), B1⟩

def recB6 (x : ArrN) : Bool := inB x.seq 0 60000 && (inB x.tail 0 60000 && inB (x.seq - x.tail) 0 4)
theorem lost_same6 {x : ArrN} (hg : geoB x.n x.s = true) : lostB x.n x.s x.lost x.built = lostB6 x := by
 obtain ⟨g1, g2, g3, g4⟩ := geoB_iff.1 hg
 rw [Bool.eq_iff_iff, lostB_iff]
 unfold lostB6
 simp only [Bool.and_eq_true, inB_iff, Bool.or_eq_true, Bool.not_eq_true', decide_eq_false_iff_not, decide_eq_true_eq]
 omega
theorem seq_same6 (x : ArrN) : seqB6 x = (inB x.gen 0 60000 && (inB x.fuse (-1) 1000 && recB6 x)) := by
 rw [Bool.eq_iff_iff]
 unfold seqB6 recB6
 simp only [Bool.and_eq_true, inB_iff, decide_eq_true_eq]
 omega
theorem arr_same6 {x : ArrN} {ms : List MemD} {ds : List (Int × List Int)} (hg : geoB x.n x.s = true) : arrB x ms ds = (inB x.id 1 60000 && (lostB x.n x.s x.lost x.built && (inB x.gen 0 60000 && (inB x.fuse (-1) 1000 && (memsB x ms && (recB6 x && entsB x ds)))))) := by
 unfold arrB
 rw [hg, lost_same6 hg, seq_same6]
 cases inB x.id 1 60000 <;> cases lostB6 x <;> cases inB x.gen 0 60000 <;> cases inB x.fuse (-1) 1000 <;> cases memsB x ms <;> cases recB6 x <;> cases entsB x ds <;> rfl
theorem stripe_in6 {x : ArrN} {y : Int} (hg : geoB x.n x.s = true) : stripeB x.n x.s y = inB y 0 (x.s - 1) := by unfold stripeB; rw [hg]; rfl
theorem sec_all6 {zs : List Int} (h : zs.length <= 12) : secB zs = allW zs := by unfold secB; simp [h]
theorem entAt_6 {x : ArrN} {ds : List (Int × List Int)} {p : Nat} {y : Int} {zs : List Int} {q : Int × List Int} (hq : ds[p]? = some q) (h : y <= q.1) : entAt x ds (p + 1) (y, zs) = false := by
 have : ds.getD (p + 1 - 1) (0, []) = q := by rw [Nat.add_sub_cancel, List.getD_eq_getElem?_getD, hq]; rfl
 unfold entAt
 rw [this]
 have h2 : ¬ q.1 < y := by omega
 simp [h2]

theorem sectorsOf_any (w : World) (n s : Int) (hs : 1 <= s /\ s <= 8) : Calls Tryz.prog 111 #[.agg #[.int .i64 n, .int .i64 s]] w fun e w' => e = .returned (.int .i64 (6 + s)) /\ Below w.heap.size w w' := by
 have hA := new_below w (.cells #[.int .i64 n, .int .i64 s] 29)
 obtain ⟨k0, k1⟩ := (Gbox.new w 29 n s).cells
 have hd : dataN s = 6 + s := by unfold dataN; split <;> omega
 have HD := hidden hd
 clear hd
 go_enter Tryz.func111, Tryz.ntmps111
 go_wp2_with fail
 refine (implDataAt_any _ _).mono ?_
 rintro e w1 ⟨rfl, h1⟩
 subst h1
 rw [HD.out]
 go_wp2
 go_ret
 exact ⟨rfl, hA⟩

theorem memsOk_any (w : World) (E F : TypeId) (x : ArrN) (am ad : Option Addr) (nm cm nd cd : Nat) (ms : List MemD) (h0 : (tMemS E F).Rd w [.slice am nm cm] ms) (hw : wtMemS ms <= 2097152) (hg : geoB x.n x.s = true) :
 Calls Tryz.prog 72 #[.agg #[.int .i64 x.id, .int .i64 x.n, .int .i64 x.s, .slice am nm cm, .int .i64 x.lost, .int .i64 x.built, .int .i64 x.seq, .int .i64 x.tail, .int .i64 x.gen, .slice ad nd cd, .int .i64 x.fuse, .bool x.down, .bool x.broken]] w fun e w' => e = .returned (.bool (memsB x ms)) /\ Below w.heap.size w w' := by
 obtain ⟨hl, hc, hm⟩ := row_length h0
 obtain ⟨g1, g2, g3, g4⟩ := geoB_iff.1 hg
 have hA := new_below w (.cells #[.int .i64 x.id, .int .i64 x.n, .int .i64 x.s, .slice am nm cm, .int .i64 x.lost, .int .i64 x.built, .int .i64 x.seq, .int .i64 x.tail, .int .i64 x.gen, .slice ad nd cd, .int .i64 x.fuse, .bool x.down, .bool x.broken] 33)
 have X := Box.new w 33 #[.int .i64 x.id, .int .i64 x.n, .int .i64 x.s, .slice am nm cm, .int .i64 x.lost, .int .i64 x.built, .int .i64 x.seq, .int .i64 x.tail, .int .i64 x.gen, .slice ad nd cd, .int .i64 x.fuse, .bool x.down, .bool x.broken]
 have zA := X.lt
 have hnm : nm <= 2097152 := by unfold wtMemS at hw; omega
 have h1 := h0.below hA
 obtain ⟨k0, k1, k2, k3, k4, k5, k6, k7, k8, k9, k10, k11, k12⟩ := X.cells13
 by_cases hN : (nm : Int) = x.n
 . have hN1 : ((nm : Int) == x.n) = true := by simpa using hN
   have hN2 : ((nm : Int) != x.n) = false := by simpa using hN
   have HN := hidden hN
   clear hN
   go_enter Tryz.func72, Tryz.ntmps72
   go_wp2
   generalize w.alloc (.cells #[.int .i64 x.id, .int .i64 x.n, .int .i64 x.s, .slice am nm cm, .int .i64 x.lost, .int .i64 x.built, .int .i64 x.seq, .int .i64 x.tail, .int .i64 x.gen, .slice ad nd cd, .int .i64 x.fuse, .bool x.down, .bool x.broken] 33) = W at hA X zA h1 k0 k1 k2 k3 k4 k5 k6 k7 k8 k9 k10 k11 k12 ⊢
   clear k0 k1 k2 k3 k4 k5 k6 k7 k8 k9 k10 k11 k12
   go_loopw [15] (fun i wr => ∃ j : Nat, j <= nm /\ i = .int .i64 j /\ (∀ (q : Nat) (m : MemD), q < j -> ms[q]? = some m -> memAt x q m = true) /\ Below W.heap.size W wr) (fun i _ => nm - (intOf i).toNat)
   case atStart => exact ⟨0, Nat.zero_le _, rfl, fun q m hq => by omega, Below.refl _ _⟩
   obtain ⟨j, hj, rfl, hall, hb⟩ := hrel
   have Xr := X.below hb zA
   by_cases hjn : j < nm
   . rcases quads_at rfl h1 with h0' | ⟨b, off, rfl, hbl, hcs⟩
     . omega
     have hdj : ms[j]? = some (ms[j]'(by omega)) := List.getElem?_eq_getElem (by omega)
     generalize ms[j]'(by omega) = m at hdj
     obtain ⟨v0, v1, v2, v3, hv0, hv1, hv2, hv3, hrv⟩ := hcs j m hdj
     obtain ⟨a0, c0, a1, c1, a3, c3, ss, cs, f, bs, rfl, rfl, rfl, rfl, rfl, r0, r1, r3⟩ := mem_at hrv
     have u0 := (hb.cell (p := ⟨b, off + j * 4, none⟩) hbl).trans hv0
     have u1 := (hb.cell (p := ⟨b, off + j * 4 + 1, none⟩) hbl).trans hv1
     have u2 := (hb.cell (p := ⟨b, off + j * 4 + 2, none⟩) hbl).trans hv2
     have u3 := (hb.cell (p := ⟨b, off + j * 4 + 3, none⟩) hbl).trans hv3
     have i1 : (0 : Int) <= (j : Int) := by omega
     have i2 : (j : Int) < (nm : Int) := by omega
     have hwm := Nat.le_trans (inner_leM hdj) hw
     have HDJ := hidden hdj
     clear hcs hv0 hv1 hv2 hv3 hrv hdj
     have b1 := new_below wr (.cells #[.slice a0 ss.length c0, .slice a1 cs.length c1, .bool f, .slice a3 bs.length c3] 51)
     have Y1 := Box.new wr 51 #[.slice a0 ss.length c0, .slice a1 cs.length c1, .bool f, .slice a3 bs.length c3]
     have X1 := Xr.below b1 Xr.lt
     have R0 := (r0.below hb).below b1
     have R1 := (r1.below hb).below b1
     have R3 := (r3.below hb).below b1
     have B1 := hb.trans (b1.mono hb.size)
     clear r0 r1 r3 b1
     obtain ⟨y0, y1, y2, y3⟩ := Y1.cells4
     obtain ⟨e0, e1, e2, e3, e4, e5, e6, e7, e8, e9, e10, e11, e12⟩ := X1.cells13
     have zy := Y1.lt
     have zx := X1.lt
     clear e0 e3 e5 e6 e7 e8 e9 e10 e11
     cases hM : memB ss cs bs
     . skip
       go_wp2_with fail
       generalize wr.alloc (.cells #[.slice a0 ss.length c0, .slice a1 cs.length c1, .bool f, .slice a3 bs.length c3] 51) = w1 at X1 Y1 R0 R1 R3 B1 y0 y1 y2 y3 e1 e2 e4 e12 zy zx ⊢
       refine wp_region_held_drew (S := fun w' => w'.cell? ⟨wr.heap.size, 0, none⟩ = some (.slice a0 ss.length c0) /\ w'.cell? ⟨wr.heap.size, 1, none⟩ = some (.slice a1 cs.length c1) /\ w'.cell? ⟨wr.heap.size, 2, none⟩ = some (.bool f) /\ w'.cell? ⟨wr.heap.size, 3, none⟩ = some (.slice a3 bs.length c3) /\ w'.cell? ⟨w.heap.size, 1, none⟩ = some (.int .i64 x.n) /\ w'.cell? ⟨w.heap.size, 2, none⟩ = some (.int .i64 x.s)) (by kernel_rfl) ?_ (fun hHeld => ?_)
       . exact ⟨y0, y1, y2, y3, e1, e2⟩
       refine held_t 0 hHeld ?_
       refine held_one (i := 1) (by kernel_rfl) rfl (by kernel_rfl) (fun K hK => ?_)
       go_simp
       refine (implMemOk_any _ E _ _ _ _ _ _ _ _ _ ss cs f bs R0.drew R1.drew R3.drew hwm).mono ?_
       rintro e w2 ⟨rfl, b2⟩
       rw [hM]
       have b2' : Below w1.heap.size w1 w2 := (Below.refl w1.heap.size w1).drew.trans b2
       clear b2
       go_wp2_with fail
       clear hHeld
       refine hK.out _ _ ?_ (fun hHeld => ?_)
       . exact ⟨(b2'.cell (p := ⟨wr.heap.size, 0, none⟩) zy).trans y0, (b2'.cell (p := ⟨wr.heap.size, 1, none⟩) zy).trans y1, (b2'.cell (p := ⟨wr.heap.size, 2, none⟩) zy).trans y2, (b2'.cell (p := ⟨wr.heap.size, 3, none⟩) zy).trans y3, (b2'.cell (p := ⟨w.heap.size, 1, none⟩) zx).trans e1, (b2'.cell (p := ⟨w.heap.size, 2, none⟩) zx).trans e2⟩
       clear hK K
       refine held_t 2 hHeld ?_
       refine held_t 3 hHeld ?_
       refine held_p 4 hHeld ?_
       refine held_p 5 hHeld ?_
       refine held_p 6 hHeld ?_
       refine held_p 7 hHeld ?_
       refine held_p 8 hHeld ?_
       refine held_none (i := 9) (by kernel_rfl) rfl (by kernel_rfl) hHeld ?_
       simp only [Act.put, List.setIfInBounds_toArray, List.set_cons_zero, List.set_cons_succ]
       refine held_p 10 hHeld ?_
       refine held_t 11 hHeld ?_
       refine wpAnyH_done (by kernel_rfl) ?_ _
       clear hHeld
       have HB := hidden (hA.trans ((B1.trans (b2'.mono B1.size)).mono hA.size))
       go_wp2
       go_ret
       exact ⟨ret_bool (by rw [show memsB x ms = false from (by unfold memsB; rw [allIx_no HDJ.out (by unfold memAt; simp [hM])]; rfl)]), HB.out⟩
     by_cases hS : (ss.length : Int) = 6 + x.s
     . have hS1 : ((ss.length : Int) == 6 + x.s) = true := by simpa using hS
       have hS2 : ((ss.length : Int) != 6 + x.s) = false := by simpa using hS
       have HS := hidden hS
       clear hS
       cases f
       . skip
         go_wp2_with fail
         generalize wr.alloc (.cells #[.slice a0 ss.length c0, .slice a1 cs.length c1, .bool false, .slice a3 bs.length c3] 51) = w1 at X1 Y1 R0 R1 R3 B1 y0 y1 y2 y3 e1 e2 e4 e12 zy zx ⊢
         refine wp_region_held_drew (S := fun w' => w'.cell? ⟨wr.heap.size, 0, none⟩ = some (.slice a0 ss.length c0) /\ w'.cell? ⟨wr.heap.size, 1, none⟩ = some (.slice a1 cs.length c1) /\ w'.cell? ⟨wr.heap.size, 2, none⟩ = some (.bool false) /\ w'.cell? ⟨wr.heap.size, 3, none⟩ = some (.slice a3 bs.length c3) /\ w'.cell? ⟨w.heap.size, 1, none⟩ = some (.int .i64 x.n) /\ w'.cell? ⟨w.heap.size, 2, none⟩ = some (.int .i64 x.s)) (by kernel_rfl) ?_ (fun hHeld => ?_)
         . exact ⟨y0, y1, y2, y3, e1, e2⟩
         refine held_t 0 hHeld ?_
         refine held_one (i := 1) (by kernel_rfl) rfl (by kernel_rfl) (fun K hK => ?_)
         go_simp
         refine (implMemOk_any _ E _ _ _ _ _ _ _ _ _ ss cs false bs R0.drew R1.drew R3.drew hwm).mono ?_
         rintro e w2 ⟨rfl, b2⟩
         rw [hM]
         have b2' : Below w1.heap.size w1 w2 := (Below.refl w1.heap.size w1).drew.trans b2
         clear b2
         go_wp2_with fail
         clear hHeld
         refine hK.out _ _ ?_ (fun hHeld => ?_)
         . exact ⟨(b2'.cell (p := ⟨wr.heap.size, 0, none⟩) zy).trans y0, (b2'.cell (p := ⟨wr.heap.size, 1, none⟩) zy).trans y1, (b2'.cell (p := ⟨wr.heap.size, 2, none⟩) zy).trans y2, (b2'.cell (p := ⟨wr.heap.size, 3, none⟩) zy).trans y3, (b2'.cell (p := ⟨w.heap.size, 1, none⟩) zx).trans e1, (b2'.cell (p := ⟨w.heap.size, 2, none⟩) zx).trans e2⟩
         clear hK K
         refine held_t 2 hHeld ?_
         refine held_t 3 hHeld ?_
         refine held_t 4 hHeld ?_
         refine held_t 5 hHeld ?_
         refine held_t 6 hHeld ?_
         refine held_t 7 hHeld ?_
         refine held_t 8 hHeld ?_
         refine held_one (i := 9) (by kernel_rfl) rfl (by kernel_rfl) (fun K hK => ?_)
         go_simp
         refine (sectorsOf_any _ x.n x.s ⟨g3, g4⟩).mono ?_
         rintro e w3 ⟨rfl, b3⟩
         have b3' : Below w1.heap.size w1 w3 := Below.andThen b2' b3
         clear b3
         go_wp2_with fail
         clear hHeld
         refine hK.out _ _ ?_ (fun hHeld => ?_)
         . exact ⟨(b3'.cell (p := ⟨wr.heap.size, 0, none⟩) zy).trans y0, (b3'.cell (p := ⟨wr.heap.size, 1, none⟩) zy).trans y1, (b3'.cell (p := ⟨wr.heap.size, 2, none⟩) zy).trans y2, (b3'.cell (p := ⟨wr.heap.size, 3, none⟩) zy).trans y3, (b3'.cell (p := ⟨w.heap.size, 1, none⟩) zx).trans e1, (b3'.cell (p := ⟨w.heap.size, 2, none⟩) zx).trans e2⟩
         clear hK K
         refine held_t 10 hHeld ?_
         refine held_t 11 hHeld ?_
         refine wpAnyH_done (by kernel_rfl) ?_ _
         clear hHeld
         have n0 := (b3'.cell (p := ⟨w.heap.size, 4, none⟩) zx).trans e4
         have n1 := (b3'.cell (p := ⟨w.heap.size, 12, none⟩) zx).trans e12
         have n2 := (b3'.cell (p := ⟨wr.heap.size, 2, none⟩) zy).trans y2
         have HB := hidden (B1.trans (b3'.mono B1.size))
         have hat : memAt x j (ss, cs, false, bs) = true := (by unfold memAt; simp [hM, HS.out])
         go_wp2
         go_roundw
         case rel => exact ⟨j + 1, by omega, by go_num, fun q m hq hm' => by
          rcases Nat.lt_or_ge q j with h | h
          . exact hall q m h hm'
          obtain rfl : q = j := by omega
          rw [HDJ.out] at hm'
          cases hm'
          exact hat, HB.out⟩
         case measure => simp [intOf]; omega
       by_cases hL : (j : Int) = x.lost
       . have hL1 : ((j : Int) == x.lost) = true := by simpa using hL
         have hL2 : ((j : Int) != x.lost) = false := by simpa using hL
         have HL := hidden hL
         clear hL
         go_wp2_with fail
         generalize wr.alloc (.cells #[.slice a0 ss.length c0, .slice a1 cs.length c1, .bool true, .slice a3 bs.length c3] 51) = w1 at X1 Y1 R0 R1 R3 B1 y0 y1 y2 y3 e1 e2 e4 e12 zy zx ⊢
         refine wp_region_held_drew (S := fun w' => w'.cell? ⟨wr.heap.size, 0, none⟩ = some (.slice a0 ss.length c0) /\ w'.cell? ⟨wr.heap.size, 1, none⟩ = some (.slice a1 cs.length c1) /\ w'.cell? ⟨wr.heap.size, 2, none⟩ = some (.bool true) /\ w'.cell? ⟨wr.heap.size, 3, none⟩ = some (.slice a3 bs.length c3) /\ w'.cell? ⟨w.heap.size, 1, none⟩ = some (.int .i64 x.n) /\ w'.cell? ⟨w.heap.size, 2, none⟩ = some (.int .i64 x.s)) (by kernel_rfl) ?_ (fun hHeld => ?_)
         . exact ⟨y0, y1, y2, y3, e1, e2⟩
         refine held_t 0 hHeld ?_
         refine held_one (i := 1) (by kernel_rfl) rfl (by kernel_rfl) (fun K hK => ?_)
         go_simp
         refine (implMemOk_any _ E _ _ _ _ _ _ _ _ _ ss cs true bs R0.drew R1.drew R3.drew hwm).mono ?_
         rintro e w2 ⟨rfl, b2⟩
         rw [hM]
         have b2' : Below w1.heap.size w1 w2 := (Below.refl w1.heap.size w1).drew.trans b2
         clear b2
         go_wp2_with fail
         clear hHeld
         refine hK.out _ _ ?_ (fun hHeld => ?_)
         . exact ⟨(b2'.cell (p := ⟨wr.heap.size, 0, none⟩) zy).trans y0, (b2'.cell (p := ⟨wr.heap.size, 1, none⟩) zy).trans y1, (b2'.cell (p := ⟨wr.heap.size, 2, none⟩) zy).trans y2, (b2'.cell (p := ⟨wr.heap.size, 3, none⟩) zy).trans y3, (b2'.cell (p := ⟨w.heap.size, 1, none⟩) zx).trans e1, (b2'.cell (p := ⟨w.heap.size, 2, none⟩) zx).trans e2⟩
         clear hK K
         refine held_t 2 hHeld ?_
         refine held_t 3 hHeld ?_
         refine held_t 4 hHeld ?_
         refine held_t 5 hHeld ?_
         refine held_t 6 hHeld ?_
         refine held_t 7 hHeld ?_
         refine held_t 8 hHeld ?_
         refine held_one (i := 9) (by kernel_rfl) rfl (by kernel_rfl) (fun K hK => ?_)
         go_simp
         refine (sectorsOf_any _ x.n x.s ⟨g3, g4⟩).mono ?_
         rintro e w3 ⟨rfl, b3⟩
         have b3' : Below w1.heap.size w1 w3 := Below.andThen b2' b3
         clear b3
         go_wp2_with fail
         clear hHeld
         refine hK.out _ _ ?_ (fun hHeld => ?_)
         . exact ⟨(b3'.cell (p := ⟨wr.heap.size, 0, none⟩) zy).trans y0, (b3'.cell (p := ⟨wr.heap.size, 1, none⟩) zy).trans y1, (b3'.cell (p := ⟨wr.heap.size, 2, none⟩) zy).trans y2, (b3'.cell (p := ⟨wr.heap.size, 3, none⟩) zy).trans y3, (b3'.cell (p := ⟨w.heap.size, 1, none⟩) zx).trans e1, (b3'.cell (p := ⟨w.heap.size, 2, none⟩) zx).trans e2⟩
         clear hK K
         refine held_t 10 hHeld ?_
         refine held_t 11 hHeld ?_
         refine wpAnyH_done (by kernel_rfl) ?_ _
         clear hHeld
         have n0 := (b3'.cell (p := ⟨w.heap.size, 4, none⟩) zx).trans e4
         have n1 := (b3'.cell (p := ⟨w.heap.size, 12, none⟩) zx).trans e12
         have n2 := (b3'.cell (p := ⟨wr.heap.size, 2, none⟩) zy).trans y2
         have HB := hidden (B1.trans (b3'.mono B1.size))
         have hat : memAt x j (ss, cs, true, bs) = true := (by unfold memAt; simp [hM, HS.out, HL.out])
         go_wp2
         go_roundw
         case rel => exact ⟨j + 1, by omega, by go_num, fun q m hq hm' => by
          rcases Nat.lt_or_ge q j with h | h
          . exact hall q m h hm'
          obtain rfl : q = j := by omega
          rw [HDJ.out] at hm'
          cases hm'
          exact hat, HB.out⟩
         case measure => simp [intOf]; omega
       have hL1 : ((j : Int) == x.lost) = false := by simpa using hL
       have hL2 : ((j : Int) != x.lost) = true := by simpa using hL
       have HL := hidden hL
       clear hL
       cases hBr : x.broken
       . rw [hBr] at e12
         go_wp2_with fail
         generalize wr.alloc (.cells #[.slice a0 ss.length c0, .slice a1 cs.length c1, .bool true, .slice a3 bs.length c3] 51) = w1 at X1 Y1 R0 R1 R3 B1 y0 y1 y2 y3 e1 e2 e4 e12 zy zx ⊢
         refine wp_region_held_drew (S := fun w' => w'.cell? ⟨wr.heap.size, 0, none⟩ = some (.slice a0 ss.length c0) /\ w'.cell? ⟨wr.heap.size, 1, none⟩ = some (.slice a1 cs.length c1) /\ w'.cell? ⟨wr.heap.size, 2, none⟩ = some (.bool true) /\ w'.cell? ⟨wr.heap.size, 3, none⟩ = some (.slice a3 bs.length c3) /\ w'.cell? ⟨w.heap.size, 1, none⟩ = some (.int .i64 x.n) /\ w'.cell? ⟨w.heap.size, 2, none⟩ = some (.int .i64 x.s)) (by kernel_rfl) ?_ (fun hHeld => ?_)
         . exact ⟨y0, y1, y2, y3, e1, e2⟩
         refine held_t 0 hHeld ?_
         refine held_one (i := 1) (by kernel_rfl) rfl (by kernel_rfl) (fun K hK => ?_)
         go_simp
         refine (implMemOk_any _ E _ _ _ _ _ _ _ _ _ ss cs true bs R0.drew R1.drew R3.drew hwm).mono ?_
         rintro e w2 ⟨rfl, b2⟩
         rw [hM]
         have b2' : Below w1.heap.size w1 w2 := (Below.refl w1.heap.size w1).drew.trans b2
         clear b2
         go_wp2_with fail
         clear hHeld
         refine hK.out _ _ ?_ (fun hHeld => ?_)
         . exact ⟨(b2'.cell (p := ⟨wr.heap.size, 0, none⟩) zy).trans y0, (b2'.cell (p := ⟨wr.heap.size, 1, none⟩) zy).trans y1, (b2'.cell (p := ⟨wr.heap.size, 2, none⟩) zy).trans y2, (b2'.cell (p := ⟨wr.heap.size, 3, none⟩) zy).trans y3, (b2'.cell (p := ⟨w.heap.size, 1, none⟩) zx).trans e1, (b2'.cell (p := ⟨w.heap.size, 2, none⟩) zx).trans e2⟩
         clear hK K
         refine held_t 2 hHeld ?_
         refine held_t 3 hHeld ?_
         refine held_t 4 hHeld ?_
         refine held_t 5 hHeld ?_
         refine held_t 6 hHeld ?_
         refine held_t 7 hHeld ?_
         refine held_t 8 hHeld ?_
         refine held_one (i := 9) (by kernel_rfl) rfl (by kernel_rfl) (fun K hK => ?_)
         go_simp
         refine (sectorsOf_any _ x.n x.s ⟨g3, g4⟩).mono ?_
         rintro e w3 ⟨rfl, b3⟩
         have b3' : Below w1.heap.size w1 w3 := Below.andThen b2' b3
         clear b3
         go_wp2_with fail
         clear hHeld
         refine hK.out _ _ ?_ (fun hHeld => ?_)
         . exact ⟨(b3'.cell (p := ⟨wr.heap.size, 0, none⟩) zy).trans y0, (b3'.cell (p := ⟨wr.heap.size, 1, none⟩) zy).trans y1, (b3'.cell (p := ⟨wr.heap.size, 2, none⟩) zy).trans y2, (b3'.cell (p := ⟨wr.heap.size, 3, none⟩) zy).trans y3, (b3'.cell (p := ⟨w.heap.size, 1, none⟩) zx).trans e1, (b3'.cell (p := ⟨w.heap.size, 2, none⟩) zx).trans e2⟩
         clear hK K
         refine held_t 10 hHeld ?_
         refine held_t 11 hHeld ?_
         refine wpAnyH_done (by kernel_rfl) ?_ _
         clear hHeld
         have n0 := (b3'.cell (p := ⟨w.heap.size, 4, none⟩) zx).trans e4
         have n1 := (b3'.cell (p := ⟨w.heap.size, 12, none⟩) zx).trans e12
         have n2 := (b3'.cell (p := ⟨wr.heap.size, 2, none⟩) zy).trans y2
         have HB := hidden (hA.trans ((B1.trans (b3'.mono B1.size)).mono hA.size))
         go_wp2
         go_ret
         exact ⟨ret_bool (by rw [show memsB x ms = false from (by unfold memsB; rw [allIx_no HDJ.out (by unfold memAt; simp [HL.out, hBr])]; rfl)]), HB.out⟩
       rw [hBr] at e12
       go_wp2_with fail
       generalize wr.alloc (.cells #[.slice a0 ss.length c0, .slice a1 cs.length c1, .bool true, .slice a3 bs.length c3] 51) = w1 at X1 Y1 R0 R1 R3 B1 y0 y1 y2 y3 e1 e2 e4 e12 zy zx ⊢
       refine wp_region_held_drew (S := fun w' => w'.cell? ⟨wr.heap.size, 0, none⟩ = some (.slice a0 ss.length c0) /\ w'.cell? ⟨wr.heap.size, 1, none⟩ = some (.slice a1 cs.length c1) /\ w'.cell? ⟨wr.heap.size, 2, none⟩ = some (.bool true) /\ w'.cell? ⟨wr.heap.size, 3, none⟩ = some (.slice a3 bs.length c3) /\ w'.cell? ⟨w.heap.size, 1, none⟩ = some (.int .i64 x.n) /\ w'.cell? ⟨w.heap.size, 2, none⟩ = some (.int .i64 x.s)) (by kernel_rfl) ?_ (fun hHeld => ?_)
       . exact ⟨y0, y1, y2, y3, e1, e2⟩
       refine held_t 0 hHeld ?_
       refine held_one (i := 1) (by kernel_rfl) rfl (by kernel_rfl) (fun K hK => ?_)
       go_simp
       refine (implMemOk_any _ E _ _ _ _ _ _ _ _ _ ss cs true bs R0.drew R1.drew R3.drew hwm).mono ?_
       rintro e w2 ⟨rfl, b2⟩
       rw [hM]
       have b2' : Below w1.heap.size w1 w2 := (Below.refl w1.heap.size w1).drew.trans b2
       clear b2
       go_wp2_with fail
       clear hHeld
       refine hK.out _ _ ?_ (fun hHeld => ?_)
       . exact ⟨(b2'.cell (p := ⟨wr.heap.size, 0, none⟩) zy).trans y0, (b2'.cell (p := ⟨wr.heap.size, 1, none⟩) zy).trans y1, (b2'.cell (p := ⟨wr.heap.size, 2, none⟩) zy).trans y2, (b2'.cell (p := ⟨wr.heap.size, 3, none⟩) zy).trans y3, (b2'.cell (p := ⟨w.heap.size, 1, none⟩) zx).trans e1, (b2'.cell (p := ⟨w.heap.size, 2, none⟩) zx).trans e2⟩
       clear hK K
       refine held_t 2 hHeld ?_
       refine held_t 3 hHeld ?_
       refine held_t 4 hHeld ?_
       refine held_t 5 hHeld ?_
       refine held_t 6 hHeld ?_
       refine held_t 7 hHeld ?_
       refine held_t 8 hHeld ?_
       refine held_one (i := 9) (by kernel_rfl) rfl (by kernel_rfl) (fun K hK => ?_)
       go_simp
       refine (sectorsOf_any _ x.n x.s ⟨g3, g4⟩).mono ?_
       rintro e w3 ⟨rfl, b3⟩
       have b3' : Below w1.heap.size w1 w3 := Below.andThen b2' b3
       clear b3
       go_wp2_with fail
       clear hHeld
       refine hK.out _ _ ?_ (fun hHeld => ?_)
       . exact ⟨(b3'.cell (p := ⟨wr.heap.size, 0, none⟩) zy).trans y0, (b3'.cell (p := ⟨wr.heap.size, 1, none⟩) zy).trans y1, (b3'.cell (p := ⟨wr.heap.size, 2, none⟩) zy).trans y2, (b3'.cell (p := ⟨wr.heap.size, 3, none⟩) zy).trans y3, (b3'.cell (p := ⟨w.heap.size, 1, none⟩) zx).trans e1, (b3'.cell (p := ⟨w.heap.size, 2, none⟩) zx).trans e2⟩
       clear hK K
       refine held_t 10 hHeld ?_
       refine held_t 11 hHeld ?_
       refine wpAnyH_done (by kernel_rfl) ?_ _
       clear hHeld
       have n0 := (b3'.cell (p := ⟨w.heap.size, 4, none⟩) zx).trans e4
       have n1 := (b3'.cell (p := ⟨w.heap.size, 12, none⟩) zx).trans e12
       have n2 := (b3'.cell (p := ⟨wr.heap.size, 2, none⟩) zy).trans y2
       have HB := hidden (B1.trans (b3'.mono B1.size))
       have hat : memAt x j (ss, cs, true, bs) = true := (by unfold memAt; simp [hM, HS.out, hBr])
       go_wp2
       go_roundw
       case rel => exact ⟨j + 1, by omega, by go_num, fun q m hq hm' => by
        rcases Nat.lt_or_ge q j with h | h
        . exact hall q m h hm'
        obtain rfl : q = j := by omega
        rw [HDJ.out] at hm'
        cases hm'
        exact hat, HB.out⟩
       case measure => simp [intOf]; omega
     have hS1 : ((ss.length : Int) == 6 + x.s) = false := by simpa using hS
     have hS2 : ((ss.length : Int) != 6 + x.s) = true := by simpa using hS
     have HS := hidden hS
     clear hS
     go_wp2_with fail
     generalize wr.alloc (.cells #[.slice a0 ss.length c0, .slice a1 cs.length c1, .bool f, .slice a3 bs.length c3] 51) = w1 at X1 Y1 R0 R1 R3 B1 y0 y1 y2 y3 e1 e2 e4 e12 zy zx ⊢
     refine wp_region_held_drew (S := fun w' => w'.cell? ⟨wr.heap.size, 0, none⟩ = some (.slice a0 ss.length c0) /\ w'.cell? ⟨wr.heap.size, 1, none⟩ = some (.slice a1 cs.length c1) /\ w'.cell? ⟨wr.heap.size, 2, none⟩ = some (.bool f) /\ w'.cell? ⟨wr.heap.size, 3, none⟩ = some (.slice a3 bs.length c3) /\ w'.cell? ⟨w.heap.size, 1, none⟩ = some (.int .i64 x.n) /\ w'.cell? ⟨w.heap.size, 2, none⟩ = some (.int .i64 x.s)) (by kernel_rfl) ?_ (fun hHeld => ?_)
     . exact ⟨y0, y1, y2, y3, e1, e2⟩
     refine held_t 0 hHeld ?_
     refine held_one (i := 1) (by kernel_rfl) rfl (by kernel_rfl) (fun K hK => ?_)
     go_simp
     refine (implMemOk_any _ E _ _ _ _ _ _ _ _ _ ss cs f bs R0.drew R1.drew R3.drew hwm).mono ?_
     rintro e w2 ⟨rfl, b2⟩
     rw [hM]
     have b2' : Below w1.heap.size w1 w2 := (Below.refl w1.heap.size w1).drew.trans b2
     clear b2
     go_wp2_with fail
     clear hHeld
     refine hK.out _ _ ?_ (fun hHeld => ?_)
     . exact ⟨(b2'.cell (p := ⟨wr.heap.size, 0, none⟩) zy).trans y0, (b2'.cell (p := ⟨wr.heap.size, 1, none⟩) zy).trans y1, (b2'.cell (p := ⟨wr.heap.size, 2, none⟩) zy).trans y2, (b2'.cell (p := ⟨wr.heap.size, 3, none⟩) zy).trans y3, (b2'.cell (p := ⟨w.heap.size, 1, none⟩) zx).trans e1, (b2'.cell (p := ⟨w.heap.size, 2, none⟩) zx).trans e2⟩
     clear hK K
     refine held_t 2 hHeld ?_
     refine held_t 3 hHeld ?_
     refine held_t 4 hHeld ?_
     refine held_t 5 hHeld ?_
     refine held_t 6 hHeld ?_
     refine held_t 7 hHeld ?_
     refine held_t 8 hHeld ?_
     refine held_one (i := 9) (by kernel_rfl) rfl (by kernel_rfl) (fun K hK => ?_)
     go_simp
     refine (sectorsOf_any _ x.n x.s ⟨g3, g4⟩).mono ?_
     rintro e w3 ⟨rfl, b3⟩
     have b3' : Below w1.heap.size w1 w3 := Below.andThen b2' b3
     clear b3
     go_wp2_with fail
     clear hHeld
     refine hK.out _ _ ?_ (fun hHeld => ?_)
     . exact ⟨(b3'.cell (p := ⟨wr.heap.size, 0, none⟩) zy).trans y0, (b3'.cell (p := ⟨wr.heap.size, 1, none⟩) zy).trans y1, (b3'.cell (p := ⟨wr.heap.size, 2, none⟩) zy).trans y2, (b3'.cell (p := ⟨wr.heap.size, 3, none⟩) zy).trans y3, (b3'.cell (p := ⟨w.heap.size, 1, none⟩) zx).trans e1, (b3'.cell (p := ⟨w.heap.size, 2, none⟩) zx).trans e2⟩
     clear hK K
     refine held_t 10 hHeld ?_
     refine held_t 11 hHeld ?_
     refine wpAnyH_done (by kernel_rfl) ?_ _
     clear hHeld
     have n0 := (b3'.cell (p := ⟨w.heap.size, 4, none⟩) zx).trans e4
     have n1 := (b3'.cell (p := ⟨w.heap.size, 12, none⟩) zx).trans e12
     have n2 := (b3'.cell (p := ⟨wr.heap.size, 2, none⟩) zy).trans y2
     have HB := hidden (hA.trans ((B1.trans (b3'.mono B1.size)).mono hA.size))
     go_wp2
     go_ret
     exact ⟨ret_bool (by rw [show memsB x ms = false from (by unfold memsB; rw [allIx_no HDJ.out (by unfold memAt; simp [HS.out])]; rfl)]), HB.out⟩
   have e : j = nm := by omega
   subst e
   have hAll : allIx (memAt x) ms = true := allIx_iff.2 (fun q m hq => hall q m (by have := (List.getElem?_eq_some_iff.1 hq).1; omega) hq)
   have HB := hidden (hA.trans (hb.mono hA.size))
   have hR : memsB x ms = true := by unfold memsB; rw [hAll, hl]; simpa using HN.out
   go_wp2
   go_ret
   exact ⟨ret_bool hR.symm, HB.out⟩
 have hN1 : ((nm : Int) == x.n) = false := by simpa using hN
 have hN2 : ((nm : Int) != x.n) = true := by simpa using hN
 have hR : memsB x ms = false := by unfold memsB; rw [hl]; simp [hN]
 have HR := hidden hR
 clear hN hR
 go_enter Tryz.func72, Tryz.ntmps72
 go_wp2
 go_ret
 exact ⟨ret_bool HR.out.symm, hA⟩

theorem dirtyOk_any (w : World) (G : TypeId) (x : ArrN) (am ad : Option Addr) (nm cm nd cd : Nat) (ds : List (Int × List Int)) (h0 : (tWrS G).Rd w [.slice ad nd cd] ds) (hw : wtWrS ds <= 2097152) (hg : geoB x.n x.s = true) :
 Calls Tryz.prog 74 #[.agg #[.int .i64 x.id, .int .i64 x.n, .int .i64 x.s, .slice am nm cm, .int .i64 x.lost, .int .i64 x.built, .int .i64 x.seq, .int .i64 x.tail, .int .i64 x.gen, .slice ad nd cd, .int .i64 x.fuse, .bool x.down, .bool x.broken]] w fun e w' => e = .returned (.bool (entsB x ds)) /\ Below w.heap.size w w' := by
 obtain ⟨hl, hc, hm⟩ := row_length h0
 obtain ⟨g1, g2, g3, g4⟩ := geoB_iff.1 hg
 have hA := new_below w (.cells #[.int .i64 x.id, .int .i64 x.n, .int .i64 x.s, .slice am nm cm, .int .i64 x.lost, .int .i64 x.built, .int .i64 x.seq, .int .i64 x.tail, .int .i64 x.gen, .slice ad nd cd, .int .i64 x.fuse, .bool x.down, .bool x.broken] 33)
 have X := Box.new w 33 #[.int .i64 x.id, .int .i64 x.n, .int .i64 x.s, .slice am nm cm, .int .i64 x.lost, .int .i64 x.built, .int .i64 x.seq, .int .i64 x.tail, .int .i64 x.gen, .slice ad nd cd, .int .i64 x.fuse, .bool x.down, .bool x.broken]
 have zA := X.lt
 have hnd : nd <= 2097152 := by unfold wtWrS at hw; omega
 have h1 := h0.below hA
 obtain ⟨k0, k1, k2, k3, k4, k5, k6, k7, k8, k9, k10, k11, k12⟩ := X.cells13
 go_enter Tryz.func74, Tryz.ntmps74
 go_wp2
 generalize w.alloc (.cells #[.int .i64 x.id, .int .i64 x.n, .int .i64 x.s, .slice am nm cm, .int .i64 x.lost, .int .i64 x.built, .int .i64 x.seq, .int .i64 x.tail, .int .i64 x.gen, .slice ad nd cd, .int .i64 x.fuse, .bool x.down, .bool x.broken] 33) = W at hA X zA h1 k0 k1 k2 k3 k4 k5 k6 k7 k8 k9 k10 k11 k12 ⊢
 clear k0 k1 k2 k3 k4 k5 k6 k7 k8 k9 k10 k11 k12
 go_loopw [8] (fun i wr => ∃ j : Nat, j <= nd /\ i = .int .i64 j /\ (∀ (q : Nat) (d : Int × List Int), q < j -> ds[q]? = some d -> entAt x ds q d = true) /\ Below W.heap.size W wr) (fun i _ => nd - (intOf i).toNat)
 case atStart => exact ⟨0, Nat.zero_le _, rfl, fun q d hq => by omega, Below.refl _ _⟩
 obtain ⟨j, hj, rfl, hall, hb⟩ := hrel
 have Xr := X.below hb zA
 by_cases hjn : j < nd
 . rcases pairs_at rfl h1 with h0' | ⟨b, off, rfl, hbl, hcs⟩
   . omega
   have hdj : ds[j]? = some (ds[j]'(by omega)) := List.getElem?_eq_getElem (by omega)
   generalize ds[j]'(by omega) = d at hdj
   obtain ⟨v0, v1, hv0, hv1, hrv⟩ := hcs j d hdj
   obtain ⟨rfl, hrw⟩ := wr_rd hrv
   obtain ⟨av, cv, rfl⟩ := row_shape hrw
   obtain ⟨y, zs⟩ := d
   simp only at hv0 hv1 hrw hrv
   have u0 := (hb.cell (p := ⟨b, off + j * 2, none⟩) hbl).trans hv0
   have u1 := (hb.cell (p := ⟨b, off + j * 2 + 1, none⟩) hbl).trans hv1
   have i1 : (0 : Int) <= (j : Int) := by omega
   have i2 : (j : Int) < (nd : Int) := by omega
   have hwz : zs.length <= 2097152 := Nat.le_trans (inner_le' hdj) hw
   have HDJ := hidden hdj
   have b1 := new_below wr (.cells #[.int .i64 y, .slice av zs.length cv] 82)
   have Y1 := Box.new wr 82 #[.int .i64 y, .slice av zs.length cv]
   have X1 := Xr.below b1 Xr.lt
   have RZ := (hrw.below hb).below b1
   have B1 := hb.trans (b1.mono hb.size)
   obtain ⟨y0, y1⟩ := Y1.cells2
   obtain ⟨e0, e1, e2, e3, e4, e5, e6, e7, e8, e9, e10, e11, e12⟩ := X1.cells13
   have zy := Y1.lt
   have zx := X1.lt
   have zb : b < (wr.alloc (.cells #[.int .i64 y, .slice av zs.length cv] 82)).heap.size := Nat.lt_of_lt_of_le hbl B1.size
   have hq : ∀ (p : Nat) (q : Int × List Int), ds[p]? = some q -> (wr.alloc (.cells #[.int .i64 y, .slice av zs.length cv] 82)).cell? ⟨b, off + p * 2, none⟩ = some (.int .i64 q.1) := fun p q hpq => by
    obtain ⟨c0, c1, hc0, hc1, hrc⟩ := hcs p q hpq
    obtain ⟨rfl, _⟩ := wr_rd hrc
    exact (B1.cell (p := ⟨b, off + p * 2, none⟩) hbl).trans hc0
   have HQ := hidden hq
   clear hcs hv0 hv1 hrv hrw hdj hq b1 e0 e3 e4 e5 e6 e7 e8 e10 e11 e12
   cases hI : stripeB x.n x.s y
   . skip
     go_wp2_with fail
     generalize wr.alloc (.cells #[.int .i64 y, .slice av zs.length cv] 82) = w1 at X1 Y1 RZ B1 y0 y1 e1 e2 e9 zy zx zb HQ  ⊢
     refine wp_region_held_drew (S := fun w' => w'.cell? ⟨wr.heap.size, 0, none⟩ = some (.int .i64 y) /\ w'.cell? ⟨w.heap.size, 1, none⟩ = some (.int .i64 x.n) /\ w'.cell? ⟨w.heap.size, 2, none⟩ = some (.int .i64 x.s) /\ w'.cell? ⟨w.heap.size, 9, none⟩ = some (.slice (some ⟨b, off, none⟩) nd cd)) (by kernel_rfl) ?_ (fun hHeld => ?_)
     . exact ⟨y0, e1, e2, e9⟩
     refine held_t 0 hHeld ?_
     refine held_t 1 hHeld ?_
     refine held_t 2 hHeld ?_
     refine held_t 3 hHeld ?_
     refine held_one (i := 4) (by kernel_rfl) rfl (by kernel_rfl) (fun K hK => ?_)
     go_simp
     refine (hasStripe_any _ x.n x.s y).mono ?_
     rintro e w2 ⟨rfl, b2⟩
     have b2' : Below w1.heap.size w1 w2 := (Below.refl w1.heap.size w1).drew.trans b2
     clear b2
     rw [hI]
     go_wp2_with fail
     clear hHeld
     refine hK.out _ _ ?_ (fun hHeld => ?_)
     . exact ⟨(b2'.cell (p := ⟨wr.heap.size, 0, none⟩) zy).trans y0, (b2'.cell (p := ⟨w.heap.size, 1, none⟩) zx).trans e1, (b2'.cell (p := ⟨w.heap.size, 2, none⟩) zx).trans e2, (b2'.cell (p := ⟨w.heap.size, 9, none⟩) zx).trans e9⟩
     clear hK K
     refine held_t 5 hHeld ?_
     refine held_t 6 hHeld ?_
     refine held_p 7 hHeld ?_
     refine held_p 8 hHeld ?_
     refine held_p 9 hHeld ?_
     refine held_p 10 hHeld ?_
     refine held_p 11 hHeld ?_
     refine held_p 12 hHeld ?_
     refine held_p 13 hHeld ?_
     refine held_p 14 hHeld ?_
     refine held_p 15 hHeld ?_
     refine held_p 16 hHeld ?_
     refine held_p 17 hHeld ?_
     refine held_p 18 hHeld ?_
     refine held_p 19 hHeld ?_
     refine held_p 20 hHeld ?_
     refine held_t 21 hHeld ?_
     refine wpAnyH_done (by kernel_rfl) ?_ _
     clear hHeld
     have HB := hidden (hA.trans ((B1.trans (b2'.mono B1.size)).mono hA.size))
     have HE := hidden (entsB_no (x := x) HDJ.out (entAt_1 (by rw [← stripe_in6 hg]; exact hI)))
     go_wp2
     go_ret
     exact ⟨ret_bool HE.out.symm, HB.out⟩
   have HI := hidden ((stripe_in6 hg).symm.trans hI)
   by_cases hj0 : j = 0
   . subst hj0
     simp only [Nat.zero_mul, Nat.add_zero] at u0 u1
     by_cases hL : (zs.length : Int) = x.n - 1
     . have hL1 : ((zs.length : Int) == x.n - 1) = true := by simpa using hL
       have hL2 : ((zs.length : Int) != x.n - 1) = false := by simpa using hL
       have HL := hidden hL
       have hsa : secB zs = allW zs := sec_all6 (by omega)
       have HSA := hidden hsa
       clear hL hsa
       cases hZ : secB zs
       . have HZ := hidden (HSA.out.symm.trans hZ)
         go_wp2_with fail
         generalize wr.alloc (.cells #[.int .i64 y, .slice av zs.length cv] 82) = w1 at X1 Y1 RZ B1 y0 y1 e1 e2 e9 zy zx zb HQ  ⊢
         refine wp_region_held_drew (S := fun w' => w'.cell? ⟨wr.heap.size, 0, none⟩ = some (.int .i64 y) /\ w'.cell? ⟨w.heap.size, 1, none⟩ = some (.int .i64 x.n) /\ w'.cell? ⟨w.heap.size, 2, none⟩ = some (.int .i64 x.s) /\ w'.cell? ⟨w.heap.size, 9, none⟩ = some (.slice (some ⟨b, off, none⟩) nd cd)) (by kernel_rfl) ?_ (fun hHeld => ?_)
         . exact ⟨y0, e1, e2, e9⟩
         refine held_t 0 hHeld ?_
         refine held_t 1 hHeld ?_
         refine held_t 2 hHeld ?_
         refine held_t 3 hHeld ?_
         refine held_one (i := 4) (by kernel_rfl) rfl (by kernel_rfl) (fun K hK => ?_)
         go_simp
         refine (hasStripe_any _ x.n x.s y).mono ?_
         rintro e w2 ⟨rfl, b2⟩
         have b2' : Below w1.heap.size w1 w2 := (Below.refl w1.heap.size w1).drew.trans b2
         clear b2
         rw [hI]
         go_wp2_with fail
         clear hHeld
         refine hK.out _ _ ?_ (fun hHeld => ?_)
         . exact ⟨(b2'.cell (p := ⟨wr.heap.size, 0, none⟩) zy).trans y0, (b2'.cell (p := ⟨w.heap.size, 1, none⟩) zx).trans e1, (b2'.cell (p := ⟨w.heap.size, 2, none⟩) zx).trans e2, (b2'.cell (p := ⟨w.heap.size, 9, none⟩) zx).trans e9⟩
         clear hK K
         refine held_t 5 hHeld ?_
         refine held_t 6 hHeld ?_
         refine held_t 7 hHeld ?_
         refine held_t 8 hHeld ?_
         refine held_t 9 hHeld ?_
         refine held_p 10 hHeld ?_
         refine held_p 11 hHeld ?_
         refine held_p 12 hHeld ?_
         refine held_p 13 hHeld ?_
         refine held_p 14 hHeld ?_
         refine held_p 15 hHeld ?_
         refine held_p 16 hHeld ?_
         refine held_p 17 hHeld ?_
         refine held_p 18 hHeld ?_
         refine held_p 19 hHeld ?_
         refine held_t 20 hHeld ?_
         refine held_t 21 hHeld ?_
         refine wpAnyH_done (by kernel_rfl) ?_ _
         clear hHeld
         have my1 := (b2'.cell (p := ⟨wr.heap.size, 1, none⟩) zy).trans y1
         have me1 := (b2'.cell (p := ⟨w.heap.size, 1, none⟩) zx).trans e1
         have me2 := (b2'.cell (p := ⟨w.heap.size, 2, none⟩) zx).trans e2
         have my := Nat.lt_of_lt_of_le zy b2'.size
         have mx := Nat.lt_of_lt_of_le zx b2'.size
         have RZ2 := RZ.below b2'
         go_wp2_with fail
         refine wp_region_held_drew (S := fun w' => w'.cell? ⟨wr.heap.size, 1, none⟩ = some (.slice av zs.length cv) /\ w'.cell? ⟨w.heap.size, 1, none⟩ = some (.int .i64 x.n) /\ w'.cell? ⟨w.heap.size, 2, none⟩ = some (.int .i64 x.s)) (by kernel_rfl) ?_ (fun hHeld => ?_)
         . exact ⟨my1, me1, me2⟩
         refine held_t 0 hHeld ?_
         refine held_t 1 hHeld ?_
         refine held_t 2 hHeld ?_
         refine held_t 3 hHeld ?_
         refine held_t 4 hHeld ?_
         refine held_one (i := 5) (by kernel_rfl) rfl (by kernel_rfl) (fun K hK => ?_)
         go_simp
         refine (perStripe_any _ x.n x.s g1 g2).mono ?_
         rintro e w3 ⟨rfl, b3⟩
         have b3' : Below w2.heap.size w2 w3 := (Below.refl w2.heap.size w2).drew.trans b3
         clear b3
         go_wp2_with fail
         clear hHeld
         refine hK.out _ _ ?_ (fun hHeld => ?_)
         . exact ⟨(b3'.cell (p := ⟨wr.heap.size, 1, none⟩) my).trans my1, (b3'.cell (p := ⟨w.heap.size, 1, none⟩) mx).trans me1, (b3'.cell (p := ⟨w.heap.size, 2, none⟩) mx).trans me2⟩
         clear hK K
         refine held_t 6 hHeld ?_
         refine held_t 7 hHeld ?_
         refine held_t 8 hHeld ?_
         refine held_t 9 hHeld ?_
         refine held_one (i := 10) (by kernel_rfl) rfl (by kernel_rfl) (fun K hK => ?_)
         go_simp
         refine (implSecOk_any _ _ _ _ zs rfl (ints_rd (RZ2.below b3')).1 hwz).mono ?_
         rintro e w4 ⟨rfl, s4⟩
         have b4' : Below w2.heap.size w2 w4 := Below.andThen b3' (s4.below _)
         clear s4
         rw [hZ]
         go_wp2_with fail
         clear hHeld
         refine hK.out _ _ ?_ (fun hHeld => ?_)
         . exact ⟨(b4'.cell (p := ⟨wr.heap.size, 1, none⟩) my).trans my1, (b4'.cell (p := ⟨w.heap.size, 1, none⟩) mx).trans me1, (b4'.cell (p := ⟨w.heap.size, 2, none⟩) mx).trans me2⟩
         clear hK K
         refine held_t 11 hHeld ?_
         refine held_t 12 hHeld ?_
         refine wpAnyH_done (by kernel_rfl) ?_ _
         clear hHeld
         have HB := hidden (hA.trans ((B1.trans ((Below.andThen b2' b4').mono B1.size)).mono hA.size))
         have HE := hidden (entsB_no (x := x) HDJ.out (entAt_3 HZ.out))
         go_wp2
         go_ret
         exact ⟨ret_bool HE.out.symm, HB.out⟩
       have HZ := hidden (HSA.out.symm.trans hZ)
       go_wp2_with fail
       generalize wr.alloc (.cells #[.int .i64 y, .slice av zs.length cv] 82) = w1 at X1 Y1 RZ B1 y0 y1 e1 e2 e9 zy zx zb HQ  ⊢
       refine wp_region_held_drew (S := fun w' => w'.cell? ⟨wr.heap.size, 0, none⟩ = some (.int .i64 y) /\ w'.cell? ⟨w.heap.size, 1, none⟩ = some (.int .i64 x.n) /\ w'.cell? ⟨w.heap.size, 2, none⟩ = some (.int .i64 x.s) /\ w'.cell? ⟨w.heap.size, 9, none⟩ = some (.slice (some ⟨b, off, none⟩) nd cd)) (by kernel_rfl) ?_ (fun hHeld => ?_)
       . exact ⟨y0, e1, e2, e9⟩
       refine held_t 0 hHeld ?_
       refine held_t 1 hHeld ?_
       refine held_t 2 hHeld ?_
       refine held_t 3 hHeld ?_
       refine held_one (i := 4) (by kernel_rfl) rfl (by kernel_rfl) (fun K hK => ?_)
       go_simp
       refine (hasStripe_any _ x.n x.s y).mono ?_
       rintro e w2 ⟨rfl, b2⟩
       have b2' : Below w1.heap.size w1 w2 := (Below.refl w1.heap.size w1).drew.trans b2
       clear b2
       rw [hI]
       go_wp2_with fail
       clear hHeld
       refine hK.out _ _ ?_ (fun hHeld => ?_)
       . exact ⟨(b2'.cell (p := ⟨wr.heap.size, 0, none⟩) zy).trans y0, (b2'.cell (p := ⟨w.heap.size, 1, none⟩) zx).trans e1, (b2'.cell (p := ⟨w.heap.size, 2, none⟩) zx).trans e2, (b2'.cell (p := ⟨w.heap.size, 9, none⟩) zx).trans e9⟩
       clear hK K
       refine held_t 5 hHeld ?_
       refine held_t 6 hHeld ?_
       refine held_t 7 hHeld ?_
       refine held_t 8 hHeld ?_
       refine held_t 9 hHeld ?_
       refine held_p 10 hHeld ?_
       refine held_p 11 hHeld ?_
       refine held_p 12 hHeld ?_
       refine held_p 13 hHeld ?_
       refine held_p 14 hHeld ?_
       refine held_p 15 hHeld ?_
       refine held_p 16 hHeld ?_
       refine held_p 17 hHeld ?_
       refine held_p 18 hHeld ?_
       refine held_p 19 hHeld ?_
       refine held_t 20 hHeld ?_
       refine held_t 21 hHeld ?_
       refine wpAnyH_done (by kernel_rfl) ?_ _
       clear hHeld
       have my1 := (b2'.cell (p := ⟨wr.heap.size, 1, none⟩) zy).trans y1
       have me1 := (b2'.cell (p := ⟨w.heap.size, 1, none⟩) zx).trans e1
       have me2 := (b2'.cell (p := ⟨w.heap.size, 2, none⟩) zx).trans e2
       have my := Nat.lt_of_lt_of_le zy b2'.size
       have mx := Nat.lt_of_lt_of_le zx b2'.size
       have RZ2 := RZ.below b2'
       go_wp2_with fail
       refine wp_region_held_drew (S := fun w' => w'.cell? ⟨wr.heap.size, 1, none⟩ = some (.slice av zs.length cv) /\ w'.cell? ⟨w.heap.size, 1, none⟩ = some (.int .i64 x.n) /\ w'.cell? ⟨w.heap.size, 2, none⟩ = some (.int .i64 x.s)) (by kernel_rfl) ?_ (fun hHeld => ?_)
       . exact ⟨my1, me1, me2⟩
       refine held_t 0 hHeld ?_
       refine held_t 1 hHeld ?_
       refine held_t 2 hHeld ?_
       refine held_t 3 hHeld ?_
       refine held_t 4 hHeld ?_
       refine held_one (i := 5) (by kernel_rfl) rfl (by kernel_rfl) (fun K hK => ?_)
       go_simp
       refine (perStripe_any _ x.n x.s g1 g2).mono ?_
       rintro e w3 ⟨rfl, b3⟩
       have b3' : Below w2.heap.size w2 w3 := (Below.refl w2.heap.size w2).drew.trans b3
       clear b3
       go_wp2_with fail
       clear hHeld
       refine hK.out _ _ ?_ (fun hHeld => ?_)
       . exact ⟨(b3'.cell (p := ⟨wr.heap.size, 1, none⟩) my).trans my1, (b3'.cell (p := ⟨w.heap.size, 1, none⟩) mx).trans me1, (b3'.cell (p := ⟨w.heap.size, 2, none⟩) mx).trans me2⟩
       clear hK K
       refine held_t 6 hHeld ?_
       refine held_t 7 hHeld ?_
       refine held_t 8 hHeld ?_
       refine held_t 9 hHeld ?_
       refine held_one (i := 10) (by kernel_rfl) rfl (by kernel_rfl) (fun K hK => ?_)
       go_simp
       refine (implSecOk_any _ _ _ _ zs rfl (ints_rd (RZ2.below b3')).1 hwz).mono ?_
       rintro e w4 ⟨rfl, s4⟩
       have b4' : Below w2.heap.size w2 w4 := Below.andThen b3' (s4.below _)
       clear s4
       rw [hZ]
       go_wp2_with fail
       clear hHeld
       refine hK.out _ _ ?_ (fun hHeld => ?_)
       . exact ⟨(b4'.cell (p := ⟨wr.heap.size, 1, none⟩) my).trans my1, (b4'.cell (p := ⟨w.heap.size, 1, none⟩) mx).trans me1, (b4'.cell (p := ⟨w.heap.size, 2, none⟩) mx).trans me2⟩
       clear hK K
       refine held_t 11 hHeld ?_
       refine held_t 12 hHeld ?_
       refine wpAnyH_done (by kernel_rfl) ?_ _
       clear hHeld
       have HB := hidden (B1.trans ((Below.andThen b2' b4').mono B1.size))
       have hat : entAt x ds (0) (y, zs) = true := entAt_4 HI.out HL.out HZ.out
       go_wp2
       go_roundw
       case rel => exact ⟨0 + 1, by omega, by go_num, fun q d hq hm' => by
        rcases Nat.lt_or_ge q (0) with h | h
        . exact hall q d h hm'
        obtain rfl : q = 0 := by omega
        rw [HDJ.out] at hm'
        cases hm'
        exact hat, HB.out⟩
       case measure => simp [intOf]; omega
     have hL1 : ((zs.length : Int) == x.n - 1) = false := by simpa using hL
     have hL2 : ((zs.length : Int) != x.n - 1) = true := by simpa using hL
     have HL := hidden hL
     clear hL
     go_wp2_with fail
     generalize wr.alloc (.cells #[.int .i64 y, .slice av zs.length cv] 82) = w1 at X1 Y1 RZ B1 y0 y1 e1 e2 e9 zy zx zb HQ  ⊢
     refine wp_region_held_drew (S := fun w' => w'.cell? ⟨wr.heap.size, 0, none⟩ = some (.int .i64 y) /\ w'.cell? ⟨w.heap.size, 1, none⟩ = some (.int .i64 x.n) /\ w'.cell? ⟨w.heap.size, 2, none⟩ = some (.int .i64 x.s) /\ w'.cell? ⟨w.heap.size, 9, none⟩ = some (.slice (some ⟨b, off, none⟩) nd cd)) (by kernel_rfl) ?_ (fun hHeld => ?_)
     . exact ⟨y0, e1, e2, e9⟩
     refine held_t 0 hHeld ?_
     refine held_t 1 hHeld ?_
     refine held_t 2 hHeld ?_
     refine held_t 3 hHeld ?_
     refine held_one (i := 4) (by kernel_rfl) rfl (by kernel_rfl) (fun K hK => ?_)
     go_simp
     refine (hasStripe_any _ x.n x.s y).mono ?_
     rintro e w2 ⟨rfl, b2⟩
     have b2' : Below w1.heap.size w1 w2 := (Below.refl w1.heap.size w1).drew.trans b2
     clear b2
     rw [hI]
     go_wp2_with fail
     clear hHeld
     refine hK.out _ _ ?_ (fun hHeld => ?_)
     . exact ⟨(b2'.cell (p := ⟨wr.heap.size, 0, none⟩) zy).trans y0, (b2'.cell (p := ⟨w.heap.size, 1, none⟩) zx).trans e1, (b2'.cell (p := ⟨w.heap.size, 2, none⟩) zx).trans e2, (b2'.cell (p := ⟨w.heap.size, 9, none⟩) zx).trans e9⟩
     clear hK K
     refine held_t 5 hHeld ?_
     refine held_t 6 hHeld ?_
     refine held_t 7 hHeld ?_
     refine held_t 8 hHeld ?_
     refine held_t 9 hHeld ?_
     refine held_p 10 hHeld ?_
     refine held_p 11 hHeld ?_
     refine held_p 12 hHeld ?_
     refine held_p 13 hHeld ?_
     refine held_p 14 hHeld ?_
     refine held_p 15 hHeld ?_
     refine held_p 16 hHeld ?_
     refine held_p 17 hHeld ?_
     refine held_p 18 hHeld ?_
     refine held_p 19 hHeld ?_
     refine held_t 20 hHeld ?_
     refine held_t 21 hHeld ?_
     refine wpAnyH_done (by kernel_rfl) ?_ _
     clear hHeld
     have my1 := (b2'.cell (p := ⟨wr.heap.size, 1, none⟩) zy).trans y1
     have me1 := (b2'.cell (p := ⟨w.heap.size, 1, none⟩) zx).trans e1
     have me2 := (b2'.cell (p := ⟨w.heap.size, 2, none⟩) zx).trans e2
     have my := Nat.lt_of_lt_of_le zy b2'.size
     have mx := Nat.lt_of_lt_of_le zx b2'.size
     have RZ2 := RZ.below b2'
     go_wp2_with fail
     refine wp_region_held_drew (S := fun w' => w'.cell? ⟨wr.heap.size, 1, none⟩ = some (.slice av zs.length cv) /\ w'.cell? ⟨w.heap.size, 1, none⟩ = some (.int .i64 x.n) /\ w'.cell? ⟨w.heap.size, 2, none⟩ = some (.int .i64 x.s)) (by kernel_rfl) ?_ (fun hHeld => ?_)
     . exact ⟨my1, me1, me2⟩
     refine held_t 0 hHeld ?_
     refine held_t 1 hHeld ?_
     refine held_t 2 hHeld ?_
     refine held_t 3 hHeld ?_
     refine held_t 4 hHeld ?_
     refine held_one (i := 5) (by kernel_rfl) rfl (by kernel_rfl) (fun K hK => ?_)
     go_simp
     refine (perStripe_any _ x.n x.s g1 g2).mono ?_
     rintro e w3 ⟨rfl, b3⟩
     have b3' : Below w2.heap.size w2 w3 := (Below.refl w2.heap.size w2).drew.trans b3
     clear b3
     go_wp2_with fail
     clear hHeld
     refine hK.out _ _ ?_ (fun hHeld => ?_)
     . exact ⟨(b3'.cell (p := ⟨wr.heap.size, 1, none⟩) my).trans my1, (b3'.cell (p := ⟨w.heap.size, 1, none⟩) mx).trans me1, (b3'.cell (p := ⟨w.heap.size, 2, none⟩) mx).trans me2⟩
     clear hK K
     refine held_t 6 hHeld ?_
     refine held_t 7 hHeld ?_
     refine held_p 8 hHeld ?_
     refine held_p 9 hHeld ?_
     refine held_none (i := 10) (by kernel_rfl) rfl (by kernel_rfl) hHeld ?_
     simp only [Act.put, List.setIfInBounds_toArray, List.set_cons_zero, List.set_cons_succ]
     refine held_p 11 hHeld ?_
     refine held_t 12 hHeld ?_
     refine wpAnyH_done (by kernel_rfl) ?_ _
     clear hHeld
     have HB := hidden (hA.trans ((B1.trans ((Below.andThen b2' b3').mono B1.size)).mono hA.size))
     have HE := hidden (entsB_no (x := x) HDJ.out (entAt_2 HL.out))
     go_wp2
     go_ret
     exact ⟨ret_bool HE.out.symm, HB.out⟩
   obtain ⟨p, rfl⟩ : ∃ p, j = p + 1 := ⟨j - 1, by omega⟩
   have hpq : ds[p]? = some (ds[p]'(by omega)) := List.getElem?_eq_getElem (by omega)
   generalize ds[p]'(by omega) = q at hpq
   have qc := HQ.out p q hpq
   obtain ⟨s, zq⟩ := q
   simp only at qc
   have HPQ := hidden hpq
   clear hpq
   have j1 : IntKind.i64.wrap (((p + 1 : Nat) : Int) - 1) = (p : Int) := by rw [IntWalk.i64_in _ (by omega)]; omega
   have j2 : IntKind.i64.wrap ((p : Int) + 1 - 1) = (p : Int) := by rw [IntWalk.i64_in _ (by omega)]; omega
   have j3 : IntKind.i64.wrap (p : Int) = (p : Int) := IntWalk.i64_in _ (by omega)
   have j4 : (0 : Int) <= (p : Int) := by omega
   have j5 : (p : Int) < (nd : Int) := by omega
   have j6 : (0 : Int) < ((p + 1 : Nat) : Int) := by omega
   by_cases hlt : s < y
   . have hge : ¬ y <= s := by omega
     by_cases hL : (zs.length : Int) = x.n - 1
     . have hL1 : ((zs.length : Int) == x.n - 1) = true := by simpa using hL
       have hL2 : ((zs.length : Int) != x.n - 1) = false := by simpa using hL
       have HL := hidden hL
       have hsa : secB zs = allW zs := sec_all6 (by omega)
       have HSA := hidden hsa
       clear hL hsa
       cases hZ : secB zs
       . have HZ := hidden (HSA.out.symm.trans hZ)
         go_wp2_with fail
         generalize wr.alloc (.cells #[.int .i64 y, .slice av zs.length cv] 82) = w1 at X1 Y1 RZ B1 y0 y1 e1 e2 e9 zy zx zb HQ qc ⊢
         refine wp_region_held_drew (S := fun w' => w'.cell? ⟨wr.heap.size, 0, none⟩ = some (.int .i64 y) /\ w'.cell? ⟨w.heap.size, 1, none⟩ = some (.int .i64 x.n) /\ w'.cell? ⟨w.heap.size, 2, none⟩ = some (.int .i64 x.s) /\ w'.cell? ⟨w.heap.size, 9, none⟩ = some (.slice (some ⟨b, off, none⟩) nd cd) /\ w'.cell? ⟨b, off + p * 2, none⟩ = some (.int .i64 s)) (by kernel_rfl) ?_ (fun hHeld => ?_)
         . exact ⟨y0, e1, e2, e9, qc⟩
         refine held_t 0 hHeld ?_
         refine held_t 1 hHeld ?_
         refine held_t 2 hHeld ?_
         refine held_t 3 hHeld ?_
         refine held_one (i := 4) (by kernel_rfl) rfl (by kernel_rfl) (fun K hK => ?_)
         go_simp
         refine (hasStripe_any _ x.n x.s y).mono ?_
         rintro e w2 ⟨rfl, b2⟩
         have b2' : Below w1.heap.size w1 w2 := (Below.refl w1.heap.size w1).drew.trans b2
         clear b2
         rw [hI]
         go_wp2_with fail
         clear hHeld
         refine hK.out _ _ ?_ (fun hHeld => ?_)
         . exact ⟨(b2'.cell (p := ⟨wr.heap.size, 0, none⟩) zy).trans y0, (b2'.cell (p := ⟨w.heap.size, 1, none⟩) zx).trans e1, (b2'.cell (p := ⟨w.heap.size, 2, none⟩) zx).trans e2, (b2'.cell (p := ⟨w.heap.size, 9, none⟩) zx).trans e9, (b2'.cell (p := ⟨b, off + p * 2, none⟩) zb).trans qc⟩
         clear hK K
         refine held_t 5 hHeld ?_
         refine held_t 6 hHeld ?_
         refine held_t 7 hHeld ?_
         refine held_t 8 hHeld ?_
         refine held_t 9 hHeld ?_
         refine held_t 10 hHeld ?_
         refine held_t 11 hHeld ?_
         refine held_t 12 hHeld ?_
         refine held_t 13 hHeld ?_
         refine held_t 14 hHeld ?_
         refine held_t 15 hHeld ?_
         refine held_t 16 hHeld ?_
         refine held_t 17 hHeld ?_
         refine held_t 18 hHeld ?_
         refine held_t 19 hHeld ?_
         refine held_t 20 hHeld ?_
         refine held_t 21 hHeld ?_
         refine wpAnyH_done (by kernel_rfl) ?_ _
         clear hHeld
         have my1 := (b2'.cell (p := ⟨wr.heap.size, 1, none⟩) zy).trans y1
         have me1 := (b2'.cell (p := ⟨w.heap.size, 1, none⟩) zx).trans e1
         have me2 := (b2'.cell (p := ⟨w.heap.size, 2, none⟩) zx).trans e2
         have my := Nat.lt_of_lt_of_le zy b2'.size
         have mx := Nat.lt_of_lt_of_le zx b2'.size
         have RZ2 := RZ.below b2'
         go_wp2_with fail
         refine wp_region_held_drew (S := fun w' => w'.cell? ⟨wr.heap.size, 1, none⟩ = some (.slice av zs.length cv) /\ w'.cell? ⟨w.heap.size, 1, none⟩ = some (.int .i64 x.n) /\ w'.cell? ⟨w.heap.size, 2, none⟩ = some (.int .i64 x.s)) (by kernel_rfl) ?_ (fun hHeld => ?_)
         . exact ⟨my1, me1, me2⟩
         refine held_t 0 hHeld ?_
         refine held_t 1 hHeld ?_
         refine held_t 2 hHeld ?_
         refine held_t 3 hHeld ?_
         refine held_t 4 hHeld ?_
         refine held_one (i := 5) (by kernel_rfl) rfl (by kernel_rfl) (fun K hK => ?_)
         go_simp
         refine (perStripe_any _ x.n x.s g1 g2).mono ?_
         rintro e w3 ⟨rfl, b3⟩
         have b3' : Below w2.heap.size w2 w3 := (Below.refl w2.heap.size w2).drew.trans b3
         clear b3
         go_wp2_with fail
         clear hHeld
         refine hK.out _ _ ?_ (fun hHeld => ?_)
         . exact ⟨(b3'.cell (p := ⟨wr.heap.size, 1, none⟩) my).trans my1, (b3'.cell (p := ⟨w.heap.size, 1, none⟩) mx).trans me1, (b3'.cell (p := ⟨w.heap.size, 2, none⟩) mx).trans me2⟩
         clear hK K
         refine held_t 6 hHeld ?_
         refine held_t 7 hHeld ?_
         refine held_t 8 hHeld ?_
         refine held_t 9 hHeld ?_
         refine held_one (i := 10) (by kernel_rfl) rfl (by kernel_rfl) (fun K hK => ?_)
         go_simp
         refine (implSecOk_any _ _ _ _ zs rfl (ints_rd (RZ2.below b3')).1 hwz).mono ?_
         rintro e w4 ⟨rfl, s4⟩
         have b4' : Below w2.heap.size w2 w4 := Below.andThen b3' (s4.below _)
         clear s4
         rw [hZ]
         go_wp2_with fail
         clear hHeld
         refine hK.out _ _ ?_ (fun hHeld => ?_)
         . exact ⟨(b4'.cell (p := ⟨wr.heap.size, 1, none⟩) my).trans my1, (b4'.cell (p := ⟨w.heap.size, 1, none⟩) mx).trans me1, (b4'.cell (p := ⟨w.heap.size, 2, none⟩) mx).trans me2⟩
         clear hK K
         refine held_t 11 hHeld ?_
         refine held_t 12 hHeld ?_
         refine wpAnyH_done (by kernel_rfl) ?_ _
         clear hHeld
         have HB := hidden (hA.trans ((B1.trans ((Below.andThen b2' b4').mono B1.size)).mono hA.size))
         have HE := hidden (entsB_no (x := x) HDJ.out (entAt_3 HZ.out))
         go_wp2
         go_ret
         exact ⟨ret_bool HE.out.symm, HB.out⟩
       have HZ := hidden (HSA.out.symm.trans hZ)
       go_wp2_with fail
       generalize wr.alloc (.cells #[.int .i64 y, .slice av zs.length cv] 82) = w1 at X1 Y1 RZ B1 y0 y1 e1 e2 e9 zy zx zb HQ qc ⊢
       refine wp_region_held_drew (S := fun w' => w'.cell? ⟨wr.heap.size, 0, none⟩ = some (.int .i64 y) /\ w'.cell? ⟨w.heap.size, 1, none⟩ = some (.int .i64 x.n) /\ w'.cell? ⟨w.heap.size, 2, none⟩ = some (.int .i64 x.s) /\ w'.cell? ⟨w.heap.size, 9, none⟩ = some (.slice (some ⟨b, off, none⟩) nd cd) /\ w'.cell? ⟨b, off + p * 2, none⟩ = some (.int .i64 s)) (by kernel_rfl) ?_ (fun hHeld => ?_)
       . exact ⟨y0, e1, e2, e9, qc⟩
       refine held_t 0 hHeld ?_
       refine held_t 1 hHeld ?_
       refine held_t 2 hHeld ?_
       refine held_t 3 hHeld ?_
       refine held_one (i := 4) (by kernel_rfl) rfl (by kernel_rfl) (fun K hK => ?_)
       go_simp
       refine (hasStripe_any _ x.n x.s y).mono ?_
       rintro e w2 ⟨rfl, b2⟩
       have b2' : Below w1.heap.size w1 w2 := (Below.refl w1.heap.size w1).drew.trans b2
       clear b2
       rw [hI]
       go_wp2_with fail
       clear hHeld
       refine hK.out _ _ ?_ (fun hHeld => ?_)
       . exact ⟨(b2'.cell (p := ⟨wr.heap.size, 0, none⟩) zy).trans y0, (b2'.cell (p := ⟨w.heap.size, 1, none⟩) zx).trans e1, (b2'.cell (p := ⟨w.heap.size, 2, none⟩) zx).trans e2, (b2'.cell (p := ⟨w.heap.size, 9, none⟩) zx).trans e9, (b2'.cell (p := ⟨b, off + p * 2, none⟩) zb).trans qc⟩
       clear hK K
       refine held_t 5 hHeld ?_
       refine held_t 6 hHeld ?_
       refine held_t 7 hHeld ?_
       refine held_t 8 hHeld ?_
       refine held_t 9 hHeld ?_
       refine held_t 10 hHeld ?_
       refine held_t 11 hHeld ?_
       refine held_t 12 hHeld ?_
       refine held_t 13 hHeld ?_
       refine held_t 14 hHeld ?_
       refine held_t 15 hHeld ?_
       refine held_t 16 hHeld ?_
       refine held_t 17 hHeld ?_
       refine held_t 18 hHeld ?_
       refine held_t 19 hHeld ?_
       refine held_t 20 hHeld ?_
       refine held_t 21 hHeld ?_
       refine wpAnyH_done (by kernel_rfl) ?_ _
       clear hHeld
       have my1 := (b2'.cell (p := ⟨wr.heap.size, 1, none⟩) zy).trans y1
       have me1 := (b2'.cell (p := ⟨w.heap.size, 1, none⟩) zx).trans e1
       have me2 := (b2'.cell (p := ⟨w.heap.size, 2, none⟩) zx).trans e2
       have my := Nat.lt_of_lt_of_le zy b2'.size
       have mx := Nat.lt_of_lt_of_le zx b2'.size
       have RZ2 := RZ.below b2'
       go_wp2_with fail
       refine wp_region_held_drew (S := fun w' => w'.cell? ⟨wr.heap.size, 1, none⟩ = some (.slice av zs.length cv) /\ w'.cell? ⟨w.heap.size, 1, none⟩ = some (.int .i64 x.n) /\ w'.cell? ⟨w.heap.size, 2, none⟩ = some (.int .i64 x.s)) (by kernel_rfl) ?_ (fun hHeld => ?_)
       . exact ⟨my1, me1, me2⟩
       refine held_t 0 hHeld ?_
       refine held_t 1 hHeld ?_
       refine held_t 2 hHeld ?_
       refine held_t 3 hHeld ?_
       refine held_t 4 hHeld ?_
       refine held_one (i := 5) (by kernel_rfl) rfl (by kernel_rfl) (fun K hK => ?_)
       go_simp
       refine (perStripe_any _ x.n x.s g1 g2).mono ?_
       rintro e w3 ⟨rfl, b3⟩
       have b3' : Below w2.heap.size w2 w3 := (Below.refl w2.heap.size w2).drew.trans b3
       clear b3
       go_wp2_with fail
       clear hHeld
       refine hK.out _ _ ?_ (fun hHeld => ?_)
       . exact ⟨(b3'.cell (p := ⟨wr.heap.size, 1, none⟩) my).trans my1, (b3'.cell (p := ⟨w.heap.size, 1, none⟩) mx).trans me1, (b3'.cell (p := ⟨w.heap.size, 2, none⟩) mx).trans me2⟩
       clear hK K
       refine held_t 6 hHeld ?_
       refine held_t 7 hHeld ?_
       refine held_t 8 hHeld ?_
       refine held_t 9 hHeld ?_
       refine held_one (i := 10) (by kernel_rfl) rfl (by kernel_rfl) (fun K hK => ?_)
       go_simp
       refine (implSecOk_any _ _ _ _ zs rfl (ints_rd (RZ2.below b3')).1 hwz).mono ?_
       rintro e w4 ⟨rfl, s4⟩
       have b4' : Below w2.heap.size w2 w4 := Below.andThen b3' (s4.below _)
       clear s4
       rw [hZ]
       go_wp2_with fail
       clear hHeld
       refine hK.out _ _ ?_ (fun hHeld => ?_)
       . exact ⟨(b4'.cell (p := ⟨wr.heap.size, 1, none⟩) my).trans my1, (b4'.cell (p := ⟨w.heap.size, 1, none⟩) mx).trans me1, (b4'.cell (p := ⟨w.heap.size, 2, none⟩) mx).trans me2⟩
       clear hK K
       refine held_t 11 hHeld ?_
       refine held_t 12 hHeld ?_
       refine wpAnyH_done (by kernel_rfl) ?_ _
       clear hHeld
       have HB := hidden (B1.trans ((Below.andThen b2' b4').mono B1.size))
       have hat : entAt x ds (p + 1) (y, zs) = true := (entAt_5 HI.out HL.out HZ.out HPQ.out).trans (by simpa using hlt)
       go_wp2
       go_roundw
       case rel => exact ⟨p + 1 + 1, by omega, by go_num, fun q d hq hm' => by
        rcases Nat.lt_or_ge q (p + 1) with h | h
        . exact hall q d h hm'
        obtain rfl : q = p + 1 := by omega
        rw [HDJ.out] at hm'
        cases hm'
        exact hat, HB.out⟩
       case measure => simp [intOf]; omega
     have hL1 : ((zs.length : Int) == x.n - 1) = false := by simpa using hL
     have hL2 : ((zs.length : Int) != x.n - 1) = true := by simpa using hL
     have HL := hidden hL
     clear hL
     go_wp2_with fail
     generalize wr.alloc (.cells #[.int .i64 y, .slice av zs.length cv] 82) = w1 at X1 Y1 RZ B1 y0 y1 e1 e2 e9 zy zx zb HQ qc ⊢
     refine wp_region_held_drew (S := fun w' => w'.cell? ⟨wr.heap.size, 0, none⟩ = some (.int .i64 y) /\ w'.cell? ⟨w.heap.size, 1, none⟩ = some (.int .i64 x.n) /\ w'.cell? ⟨w.heap.size, 2, none⟩ = some (.int .i64 x.s) /\ w'.cell? ⟨w.heap.size, 9, none⟩ = some (.slice (some ⟨b, off, none⟩) nd cd) /\ w'.cell? ⟨b, off + p * 2, none⟩ = some (.int .i64 s)) (by kernel_rfl) ?_ (fun hHeld => ?_)
     . exact ⟨y0, e1, e2, e9, qc⟩
     refine held_t 0 hHeld ?_
     refine held_t 1 hHeld ?_
     refine held_t 2 hHeld ?_
     refine held_t 3 hHeld ?_
     refine held_one (i := 4) (by kernel_rfl) rfl (by kernel_rfl) (fun K hK => ?_)
     go_simp
     refine (hasStripe_any _ x.n x.s y).mono ?_
     rintro e w2 ⟨rfl, b2⟩
     have b2' : Below w1.heap.size w1 w2 := (Below.refl w1.heap.size w1).drew.trans b2
     clear b2
     rw [hI]
     go_wp2_with fail
     clear hHeld
     refine hK.out _ _ ?_ (fun hHeld => ?_)
     . exact ⟨(b2'.cell (p := ⟨wr.heap.size, 0, none⟩) zy).trans y0, (b2'.cell (p := ⟨w.heap.size, 1, none⟩) zx).trans e1, (b2'.cell (p := ⟨w.heap.size, 2, none⟩) zx).trans e2, (b2'.cell (p := ⟨w.heap.size, 9, none⟩) zx).trans e9, (b2'.cell (p := ⟨b, off + p * 2, none⟩) zb).trans qc⟩
     clear hK K
     refine held_t 5 hHeld ?_
     refine held_t 6 hHeld ?_
     refine held_t 7 hHeld ?_
     refine held_t 8 hHeld ?_
     refine held_t 9 hHeld ?_
     refine held_t 10 hHeld ?_
     refine held_t 11 hHeld ?_
     refine held_t 12 hHeld ?_
     refine held_t 13 hHeld ?_
     refine held_t 14 hHeld ?_
     refine held_t 15 hHeld ?_
     refine held_t 16 hHeld ?_
     refine held_t 17 hHeld ?_
     refine held_t 18 hHeld ?_
     refine held_t 19 hHeld ?_
     refine held_t 20 hHeld ?_
     refine held_t 21 hHeld ?_
     refine wpAnyH_done (by kernel_rfl) ?_ _
     clear hHeld
     have my1 := (b2'.cell (p := ⟨wr.heap.size, 1, none⟩) zy).trans y1
     have me1 := (b2'.cell (p := ⟨w.heap.size, 1, none⟩) zx).trans e1
     have me2 := (b2'.cell (p := ⟨w.heap.size, 2, none⟩) zx).trans e2
     have my := Nat.lt_of_lt_of_le zy b2'.size
     have mx := Nat.lt_of_lt_of_le zx b2'.size
     have RZ2 := RZ.below b2'
     go_wp2_with fail
     refine wp_region_held_drew (S := fun w' => w'.cell? ⟨wr.heap.size, 1, none⟩ = some (.slice av zs.length cv) /\ w'.cell? ⟨w.heap.size, 1, none⟩ = some (.int .i64 x.n) /\ w'.cell? ⟨w.heap.size, 2, none⟩ = some (.int .i64 x.s)) (by kernel_rfl) ?_ (fun hHeld => ?_)
     . exact ⟨my1, me1, me2⟩
     refine held_t 0 hHeld ?_
     refine held_t 1 hHeld ?_
     refine held_t 2 hHeld ?_
     refine held_t 3 hHeld ?_
     refine held_t 4 hHeld ?_
     refine held_one (i := 5) (by kernel_rfl) rfl (by kernel_rfl) (fun K hK => ?_)
     go_simp
     refine (perStripe_any _ x.n x.s g1 g2).mono ?_
     rintro e w3 ⟨rfl, b3⟩
     have b3' : Below w2.heap.size w2 w3 := (Below.refl w2.heap.size w2).drew.trans b3
     clear b3
     go_wp2_with fail
     clear hHeld
     refine hK.out _ _ ?_ (fun hHeld => ?_)
     . exact ⟨(b3'.cell (p := ⟨wr.heap.size, 1, none⟩) my).trans my1, (b3'.cell (p := ⟨w.heap.size, 1, none⟩) mx).trans me1, (b3'.cell (p := ⟨w.heap.size, 2, none⟩) mx).trans me2⟩
     clear hK K
     refine held_t 6 hHeld ?_
     refine held_t 7 hHeld ?_
     refine held_p 8 hHeld ?_
     refine held_p 9 hHeld ?_
     refine held_none (i := 10) (by kernel_rfl) rfl (by kernel_rfl) hHeld ?_
     simp only [Act.put, List.setIfInBounds_toArray, List.set_cons_zero, List.set_cons_succ]
     refine held_p 11 hHeld ?_
     refine held_t 12 hHeld ?_
     refine wpAnyH_done (by kernel_rfl) ?_ _
     clear hHeld
     have HB := hidden (hA.trans ((B1.trans ((Below.andThen b2' b3').mono B1.size)).mono hA.size))
     have HE := hidden (entsB_no (x := x) HDJ.out (entAt_2 HL.out))
     go_wp2
     go_ret
     exact ⟨ret_bool HE.out.symm, HB.out⟩
   have hge : y <= s := by omega
   go_wp2_with fail
   generalize wr.alloc (.cells #[.int .i64 y, .slice av zs.length cv] 82) = w1 at X1 Y1 RZ B1 y0 y1 e1 e2 e9 zy zx zb HQ qc ⊢
   refine wp_region_held_drew (S := fun w' => w'.cell? ⟨wr.heap.size, 0, none⟩ = some (.int .i64 y) /\ w'.cell? ⟨w.heap.size, 1, none⟩ = some (.int .i64 x.n) /\ w'.cell? ⟨w.heap.size, 2, none⟩ = some (.int .i64 x.s) /\ w'.cell? ⟨w.heap.size, 9, none⟩ = some (.slice (some ⟨b, off, none⟩) nd cd) /\ w'.cell? ⟨b, off + p * 2, none⟩ = some (.int .i64 s)) (by kernel_rfl) ?_ (fun hHeld => ?_)
   . exact ⟨y0, e1, e2, e9, qc⟩
   refine held_t 0 hHeld ?_
   refine held_t 1 hHeld ?_
   refine held_t 2 hHeld ?_
   refine held_t 3 hHeld ?_
   refine held_one (i := 4) (by kernel_rfl) rfl (by kernel_rfl) (fun K hK => ?_)
   go_simp
   refine (hasStripe_any _ x.n x.s y).mono ?_
   rintro e w2 ⟨rfl, b2⟩
   have b2' : Below w1.heap.size w1 w2 := (Below.refl w1.heap.size w1).drew.trans b2
   clear b2
   rw [hI]
   go_wp2_with fail
   clear hHeld
   refine hK.out _ _ ?_ (fun hHeld => ?_)
   . exact ⟨(b2'.cell (p := ⟨wr.heap.size, 0, none⟩) zy).trans y0, (b2'.cell (p := ⟨w.heap.size, 1, none⟩) zx).trans e1, (b2'.cell (p := ⟨w.heap.size, 2, none⟩) zx).trans e2, (b2'.cell (p := ⟨w.heap.size, 9, none⟩) zx).trans e9, (b2'.cell (p := ⟨b, off + p * 2, none⟩) zb).trans qc⟩
   clear hK K
   refine held_t 5 hHeld ?_
   refine held_t 6 hHeld ?_
   refine held_t 7 hHeld ?_
   refine held_t 8 hHeld ?_
   refine held_t 9 hHeld ?_
   refine held_t 10 hHeld ?_
   refine held_t 11 hHeld ?_
   refine held_t 12 hHeld ?_
   refine held_t 13 hHeld ?_
   refine held_t 14 hHeld ?_
   refine held_t 15 hHeld ?_
   refine held_t 16 hHeld ?_
   refine held_t 17 hHeld ?_
   refine held_t 18 hHeld ?_
   refine held_t 19 hHeld ?_
   refine held_t 20 hHeld ?_
   refine held_t 21 hHeld ?_
   refine wpAnyH_done (by kernel_rfl) ?_ _
   clear hHeld
   have HB := hidden (hA.trans ((B1.trans (b2'.mono B1.size)).mono hA.size))
   have HE := hidden (entsB_no (x := x) HDJ.out (entAt_6 HPQ.out hge))
   go_wp2
   go_ret
   exact ⟨ret_bool HE.out.symm, HB.out⟩
 have ej : j = nd := by omega
 subst ej
 have hAll : entsB x ds = true := allIx_iff.2 (fun q d hq => hall q d (by have := (List.getElem?_eq_some_iff.1 hq).1; omega) hq)
 have HB := hidden (hA.trans (hb.mono hA.size))
 go_wp2
 go_ret
 exact ⟨ret_bool hAll.symm, HB.out⟩

theorem recsOk_any (w : World) (x : ArrN) (am ad : Option Addr) (nm cm nd cd : Nat) :
 Calls Tryz.prog 73 #[.agg #[.int .i64 x.id, .int .i64 x.n, .int .i64 x.s, .slice am nm cm, .int .i64 x.lost, .int .i64 x.built, .int .i64 x.seq, .int .i64 x.tail, .int .i64 x.gen, .slice ad nd cd, .int .i64 x.fuse, .bool x.down, .bool x.broken]] w fun e w' => e = .returned (.bool (recB6 x)) /\ Below w.heap.size w w' := by
 have hA := new_below w (.cells #[.int .i64 x.id, .int .i64 x.n, .int .i64 x.s, .slice am nm cm, .int .i64 x.lost, .int .i64 x.built, .int .i64 x.seq, .int .i64 x.tail, .int .i64 x.gen, .slice ad nd cd, .int .i64 x.fuse, .bool x.down, .bool x.broken] 33)
 have X := Box.new w 33 #[.int .i64 x.id, .int .i64 x.n, .int .i64 x.s, .slice am nm cm, .int .i64 x.lost, .int .i64 x.built, .int .i64 x.seq, .int .i64 x.tail, .int .i64 x.gen, .slice ad nd cd, .int .i64 x.fuse, .bool x.down, .bool x.broken]
 obtain ⟨k0, k1, k2, k3, k4, k5, k6, k7, k8, k9, k10, k11, k12⟩ := X.cells13
 clear k0 k1 k2 k3 k4 k5 k8 k9 k10 k11 k12 X
 go_enter Tryz.func73, Tryz.ntmps73
 go_wp2_with fail
 refine (within_any _ _ _ _).mono ?_
 rintro e wq ⟨rfl, hq⟩
 obtain rfl := hq.symm
 cases hs : inB x.seq 0 60000
 . have HF : Hid (recB6 x = false) := by unfold Hid recB6; rw [hs]; rfl
   go_wp2
   go_ret
   exact ⟨ret_bool HF.out.symm, hA⟩
 go_wp2_with fail
 refine (within_any _ _ _ _).mono ?_
 rintro e wq ⟨rfl, hq⟩
 obtain rfl := hq.symm
 cases ht : inB x.tail 0 60000
 . have HF : Hid (recB6 x = false) := by unfold Hid recB6; rw [hs, ht]; rfl
   go_wp2
   go_ret
   exact ⟨ret_bool HF.out.symm, hA⟩
 have HF : Hid (recB6 x = inB (x.seq - x.tail) 0 4) := by unfold Hid recB6; rw [hs, ht]; rfl
 obtain ⟨s1, s2⟩ := inB_iff.1 hs
 obtain ⟨t1, t2⟩ := inB_iff.1 ht
 have hw : IntKind.i64.wrap (x.seq - x.tail) = x.seq - x.tail := IntWalk.i64_in _ (by omega)
 go_wp2_with fail
 refine (within_any _ _ _ _).mono ?_
 rintro e wq ⟨rfl, hq⟩
 obtain rfl := hq.symm
 cases hd : inB (x.seq - x.tail) 0 4
 . go_wp2
   go_ret
   exact ⟨ret_bool (by rw [HF.out, hd]), hA⟩
 go_wp2
 go_ret
 exact ⟨ret_bool (by rw [HF.out, hd]), hA⟩

theorem implArrOk_any (w : World) (E F G : TypeId) (x : ArrN) (am ad : Option Addr) (nm cm nd cd : Nat) (ms : List MemD) (ds : List (Int × List Int)) (h0 : (tMemS E F).Rd w [.slice am nm cm] ms) (h1 : (tWrS G).Rd w [.slice ad nd cd] ds) (hw : wtArr ms ds <= 2097152) :
 Calls Tryz.prog 33 #[.agg #[.int .i64 x.id, .int .i64 x.n, .int .i64 x.s, .slice am nm cm, .int .i64 x.lost, .int .i64 x.built, .int .i64 x.seq, .int .i64 x.tail, .int .i64 x.gen, .slice ad nd cd, .int .i64 x.fuse, .bool x.down, .bool x.broken]] w fun e w' => e = .returned (.bool (arrB x ms ds)) /\ Below w.heap.size w w' := by
 have hwm : wtMemS ms <= 2097152 := by unfold wtArr at hw; omega
 have hwd : wtWrS ds <= 2097152 := by unfold wtArr at hw; omega
 have hA := new_below w (.cells #[.int .i64 x.id, .int .i64 x.n, .int .i64 x.s, .slice am nm cm, .int .i64 x.lost, .int .i64 x.built, .int .i64 x.seq, .int .i64 x.tail, .int .i64 x.gen, .slice ad nd cd, .int .i64 x.fuse, .bool x.down, .bool x.broken] 33)
 have X := Box.new w 33 #[.int .i64 x.id, .int .i64 x.n, .int .i64 x.s, .slice am nm cm, .int .i64 x.lost, .int .i64 x.built, .int .i64 x.seq, .int .i64 x.tail, .int .i64 x.gen, .slice ad nd cd, .int .i64 x.fuse, .bool x.down, .bool x.broken]
 obtain ⟨k0, k1, k2, k3, k4, k5, k6, k7, k8, k9, k10, k11, k12⟩ := X.cells13
 have zA := X.lt
 have r0 := h0.below hA
 have r1 := h1.below hA
 go_enter Tryz.func33, Tryz.ntmps33
 go_wp2_with fail
 generalize w.alloc (.cells #[.int .i64 x.id, .int .i64 x.n, .int .i64 x.s, .slice am nm cm, .int .i64 x.lost, .int .i64 x.built, .int .i64 x.seq, .int .i64 x.tail, .int .i64 x.gen, .slice ad nd cd, .int .i64 x.fuse, .bool x.down, .bool x.broken] 33) = W at hA X zA r0 r1 k0 k1 k2 k3 k4 k5 k6 k7 k8 k9 k10 k11 k12 ⊢
 refine (implGeoOk_any _ _ _).mono ?_
 rintro e w1 ⟨rfl, b1⟩
 have X1 := X.below b1 X.lt
 have B1 := Below.andThen hA b1
 have q1 := r0.below b1
 have t1 := r1.below b1
 clear k0 k1 k2 k3 k4 k5 k6 k7 k8 k9 k10 k11 k12 b1 X hA r0 r1
 obtain ⟨k0, k1, k2, k3, k4, k5, k6, k7, k8, k9, k10, k11, k12⟩ := X1.cells13
 cases hg : geoB x.n x.s
 . have HF : Hid (arrB x ms ds = false) := by
    unfold Hid
    unfold arrB; rw [hg]; rfl
   go_wp2
   go_ret
   exact ⟨ret_bool HF.out.symm, B1⟩
 have HE := hidden (arr_same6 (ms := ms) (ds := ds) hg)
 obtain ⟨g1, g2, g3, g4⟩ := geoB_iff.1 hg
 go_wp2_with fail
 refine (within_any _ _ _ _).mono ?_
 rintro e wq ⟨rfl, hq⟩
 obtain rfl := hq.symm
 cases hid : inB x.id 1 60000
 . have HF : Hid (arrB x ms ds = false) := by
    unfold Hid
    rw [HE.out, hid]; rfl
   go_wp2
   go_ret
   exact ⟨ret_bool HF.out.symm, B1⟩
 go_wp2_with fail
 refine (lostOk_any _ x.n x.s x.lost x.built ⟨g1, g2⟩).mono ?_
 rintro e w2 ⟨rfl, b2⟩
 have X2 := X1.below b2 X1.lt
 have B2 := Below.andThen B1 b2
 have q2 := q1.below b2
 have t2 := t1.below b2
 clear k0 k1 k2 k3 k4 k5 k6 k7 k8 k9 k10 k11 k12 b2 X1 B1 q1 t1
 obtain ⟨k0, k1, k2, k3, k4, k5, k6, k7, k8, k9, k10, k11, k12⟩ := X2.cells13
 cases hlo : lostB x.n x.s x.lost x.built
 . have HF : Hid (arrB x ms ds = false) := by
    unfold Hid
    rw [HE.out, hid, hlo]; rfl
   go_wp2
   go_ret
   exact ⟨ret_bool HF.out.symm, B2⟩
 skip
 go_wp2_with fail
 refine (within_any _ _ _ _).mono ?_
 rintro e wq ⟨rfl, hq⟩
 obtain rfl := hq.symm
 cases hge : inB x.gen 0 60000
 . have HF : Hid (arrB x ms ds = false) := by
    unfold Hid
    rw [HE.out, hid, hlo, hge]; rfl
   go_wp2
   go_ret
   exact ⟨ret_bool HF.out.symm, B2⟩
 skip
 go_wp2_with fail
 refine (within_any _ _ _ _).mono ?_
 rintro e wq ⟨rfl, hq⟩
 obtain rfl := hq.symm
 cases hfu : inB x.fuse (-1) 1000
 . have HF : Hid (arrB x ms ds = false) := by
    unfold Hid
    rw [HE.out, hid, hlo, hge, hfu]; rfl
   go_wp2
   go_ret
   exact ⟨ret_bool HF.out.symm, B2⟩
 go_wp2_with fail
 refine (memsOk_any _ E F x _ _ _ _ _ _ ms q2 hwm hg).mono ?_
 rintro e w3 ⟨rfl, b3⟩
 have X3 := X2.below b3 X2.lt
 have B3 := Below.andThen B2 b3
 have q3 := q2.below b3
 have t3 := t2.below b3
 clear k0 k1 k2 k3 k4 k5 k6 k7 k8 k9 k10 k11 k12 b3 X2 B2 q2 t2
 obtain ⟨k0, k1, k2, k3, k4, k5, k6, k7, k8, k9, k10, k11, k12⟩ := X3.cells13
 cases hms : memsB x ms
 . have HF : Hid (arrB x ms ds = false) := by
    unfold Hid
    rw [HE.out, hid, hlo, hge, hfu, hms]; rfl
   go_wp2
   go_ret
   exact ⟨ret_bool HF.out.symm, B3⟩
 go_wp2_with fail
 refine (recsOk_any _ x _ _ _ _ _ _).mono ?_
 rintro e w4 ⟨rfl, b4⟩
 have X4 := X3.below b4 X3.lt
 have B4 := Below.andThen B3 b4
 have q4 := q3.below b4
 have t4 := t3.below b4
 clear k0 k1 k2 k3 k4 k5 k6 k7 k8 k9 k10 k11 k12 b4 X3 B3 q3 t3
 obtain ⟨k0, k1, k2, k3, k4, k5, k6, k7, k8, k9, k10, k11, k12⟩ := X4.cells13
 cases hre : recB6 x
 . have HF : Hid (arrB x ms ds = false) := by
    unfold Hid
    rw [HE.out, hid, hlo, hge, hfu, hms, hre]; rfl
   go_wp2
   go_ret
   exact ⟨ret_bool HF.out.symm, B4⟩
 have HF : Hid (arrB x ms ds = entsB x ds) := by
  unfold Hid
  rw [HE.out, hid, hlo, hge, hfu, hms, hre]; rfl
 go_wp2_with fail
 refine (dirtyOk_any _ G x _ _ _ _ _ _ ds t4 hwd hg).mono ?_
 rintro e w5 ⟨rfl, b5⟩
 have X5 := X4.below b5 X4.lt
 have B5 := Below.andThen B4 b5
 have q5 := q4.below b5
 have t5 := t4.below b5
 clear k0 k1 k2 k3 k4 k5 k6 k7 k8 k9 k10 k11 k12 b5 X4 B4 q4 t4
 obtain ⟨k0, k1, k2, k3, k4, k5, k6, k7, k8, k9, k10, k11, k12⟩ := X5.cells13
 cases hds : entsB x ds
 . go_wp2
   go_ret
   exact ⟨ret_bool (by rw [HF.out, hds]), B5⟩
 go_wp2
 go_ret
 exact ⟨ret_bool (by rw [HF.out, hds]), B5⟩

end Go.Proofs.YtechckninoilhaaGreat

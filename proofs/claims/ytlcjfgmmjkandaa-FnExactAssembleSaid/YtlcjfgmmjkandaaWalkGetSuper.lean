/-
  Both GetSuper (the program's and the specification's) answer as the definitions here say. Condition: at most 2097152 words.
-/
import Derived.Test.YtlcjfgmmjkandaaWalkPutSuper
import Derived.Laws.IdiomCopy
namespace Go.Proofs.Ytlcjfgmmjkandaa
open Go.RowKit

def ofW (zs : List Int) : Sup := ⟨zs.getD 1 0, zs.getD 2 0, zs.getD 3 0, zs.getD 4 0, zs.getD 5 0, zs.getD 6 0, IntKind.i64.wrap (zs.getD 7 0 - 1), zs.getD 8 0⟩
def getB (zs : List Int) : Bool := decide (zs.length = 9) && (decide (zs.getD 0 0 = 21317) && supB (ofW zs))
def getD (zs : List Int) : Sup := if getB zs = true then ofW zs else supZ
theorem getB_len {zs : List Int} (h : ¬ zs.length = 9) : getB zs = false := by unfold getB; simp [h]
theorem getD_not {zs : List Int} (h : getB zs = false) : getD zs = supZ := by unfold getD; rw [if_neg (by simp [h])]
theorem getD_of {zs : List Int} (h : getB zs = true) : getD zs = ofW zs := by unfold getD; rw [if_pos h]
theorem Reads.nine {w : World} {a : Option Addr} {z0 z1 z2 z3 z4 z5 z6 z7 z8 : Int} (h : Reads .i64 w a [z0, z1, z2, z3, z4, z5, z6, z7, z8]) :
    ∃ b off, a = some ⟨b, off, none⟩ ∧ b < w.heap.size ∧ w.cell? ⟨b, off, none⟩ = some (.int .i64 z0) ∧ w.cell? ⟨b, off + 1, none⟩ = some (.int .i64 z1) ∧ w.cell? ⟨b, off + 2, none⟩ = some (.int .i64 z2) ∧ w.cell? ⟨b, off + 3, none⟩ = some (.int .i64 z3) ∧ w.cell? ⟨b, off + 4, none⟩ = some (.int .i64 z4) ∧ w.cell? ⟨b, off + 5, none⟩ = some (.int .i64 z5) ∧ w.cell? ⟨b, off + 6, none⟩ = some (.int .i64 z6) ∧ w.cell? ⟨b, off + 7, none⟩ = some (.int .i64 z7) ∧ w.cell? ⟨b, off + 8, none⟩ = some (.int .i64 z8) := by
  rcases h with h | ⟨b, off, ha, hlt, hc⟩
  · simp at h
  · exact ⟨b, off, ha, hlt, hc 0 (by simp), hc 1 (by simp), hc 2 (by simp), hc 3 (by simp), hc 4 (by simp), hc 5 (by simp), hc 6 (by simp), hc 7 (by simp), hc 8 (by simp)⟩
theorem Box.cells9 {w : World} {B : Nat} {T : TypeId} {v0 v1 v2 v3 v4 v5 v6 v7 v8 : Value} (h : Box w B T #[v0, v1, v2, v3, v4, v5, v6, v7, v8]) : w.cell? ⟨B, 0, none⟩ = some v0 ∧ w.cell? ⟨B, 1, none⟩ = some v1 ∧ w.cell? ⟨B, 2, none⟩ = some v2 ∧ w.cell? ⟨B, 3, none⟩ = some v3 ∧ w.cell? ⟨B, 4, none⟩ = some v4 ∧ w.cell? ⟨B, 5, none⟩ = some v5 ∧ w.cell? ⟨B, 6, none⟩ = some v6 ∧ w.cell? ⟨B, 7, none⟩ = some v7 ∧ w.cell? ⟨B, 8, none⟩ = some v8 := ⟨h.cell 0, h.cell 1, h.cell 2, h.cell 3, h.cell 4, h.cell 5, h.cell 6, h.cell 7, h.cell 8⟩
/-- A block's cells set one by one. -/
theorem box_setCells {T : TypeId} {B : Nat} : ∀ (cs : List Value) (o : Nat) (w : World) (ds : Array Value), Box w B T ds → ∃ es : Array Value, Box (w.setCells B o cs) B T es ∧ es.size = ds.size ∧ Turned [B] w (w.setCells B o cs)
  | [], _, w, ds, h => ⟨ds, h, rfl, Turned.refl _ _⟩
  | c :: r, o, w, ds, h => by
    obtain ⟨es, h1, h2, h3⟩ := box_setCells r (o + 1) (w.setCell ⟨B, o, none⟩ c) _ (h.set o c)
    refine ⟨es, h1, by rw [h2]; simp, Turned.trans (Turned.setCell c (by simp)) h3⟩
theorem box_full {T : TypeId} {B : Nat} {cs : List Value} {w : World} {ds : Array Value} (h : Box w B T ds) (hl : cs.length = ds.size) : Box (w.setCells B 0 cs) B T cs.toArray ∧ Turned [B] w (w.setCells B 0 cs) := by
  obtain ⟨es, h1, h2, h3⟩ := box_setCells cs 0 w ds h
  have e : es = cs.toArray := by
    apply Array.ext
    · simp [h2, hl]
    · intro i hi hi'
      have hc := World.cell?_setCells_in B cs 0 w (fun j hj => by rw [Nat.zero_add, h.cell j, Array.getElem?_eq_getElem (by omega)]; rfl) i (by simpa using hi')
      rw [Nat.zero_add, h1.cell i, Array.getElem?_eq_getElem hi] at hc
      simpa using hc
  rw [e] at h1
  exact ⟨h1, h3⟩

/-- A block's first eight cells set. -/
def set8 (w : World) (B : Nat) (v0 v1 v2 v3 v4 v5 v6 v7 : Value) : World := ((((((((w).setCell ⟨B, 0, none⟩ v0).setCell ⟨B, 1, none⟩ v1).setCell ⟨B, 2, none⟩ v2).setCell ⟨B, 3, none⟩ v3).setCell ⟨B, 4, none⟩ v4).setCell ⟨B, 5, none⟩ v5).setCell ⟨B, 6, none⟩ v6).setCell ⟨B, 7, none⟩ v7
theorem set8_but (w : World) (B : Nat) (v0 v1 v2 v3 v4 v5 v6 v7 : Value) : But B (B + 1) w (set8 w B v0 v1 v2 v3 v4 v5 v6 v7) := by
  unfold set8
  exact (((((((But.setCell (by omega) (by omega) _).trans (But.setCell (by omega) (by omega) _)).trans (But.setCell (by omega) (by omega) _)).trans (But.setCell (by omega) (by omega) _)).trans (But.setCell (by omega) (by omega) _)).trans (But.setCell (by omega) (by omega) _)).trans (But.setCell (by omega) (by omega) _)).trans (But.setCell (by omega) (by omega) _)

set_option maxHeartbeats 800000 in
theorem superOfWords_any (w : World) (z0 z1 z2 z3 z4 z5 z6 z7 z8 l7 : Int) (hw : IntKind.i64.wrap (z7 - 1) = l7) : Calls Try.prog 123 #[.agg #[.int .i64 z0, .int .i64 z1, .int .i64 z2, .int .i64 z3, .int .i64 z4, .int .i64 z5, .int .i64 z6, .int .i64 z7, .int .i64 z8]] w fun e w' => e = .returned (.agg #[.int .i64 z1, .int .i64 z2, .int .i64 z3, .int .i64 z4, .int .i64 z5, .int .i64 z6, .int .i64 l7, .int .i64 z8]) ∧ Below w.heap.size w w' := by
  go_enter Try.func123, Try.ntmps123
  go_wp2
  refine bodyPost_ret (v := .agg #[.int .i64 z1, .int .i64 z2, .int .i64 z3, .int .i64 z4, .int .i64 z5, .int .i64 z6, .int .i64 l7, .int .i64 z8]) (by simp [results, Try.results123, go_sem]) rfl ?_
  refine ⟨rfl, ?_⟩
  exact (new_below w _).alloc (by simp) _

theorem get_zero {zs : List Int} (h : getB zs = false) : (.agg #[.int .i64 (getD zs).id, .int .i64 (getD zs).gen, .int .i64 (getD zs).role, .int .i64 (getD zs).n, .int .i64 (getD zs).s, .int .i64 (getD zs).tail, .int .i64 (getD zs).lost, .int .i64 (getD zs).built] : Value) = .agg #[.int .i64 0, .int .i64 0, .int .i64 0, .int .i64 0, .int .i64 0, .int .i64 0, .int .i64 0, .int .i64 0] := by rw [getD_not h]; rfl
theorem get_full {z0 z1 z2 z3 z4 z5 z6 z7 z8 l7 : Int} (hw : IntKind.i64.wrap (z7 - 1) = l7) (h : getB [z0, z1, z2, z3, z4, z5, z6, z7, z8] = true) : (.agg #[.int .i64 (getD [z0, z1, z2, z3, z4, z5, z6, z7, z8]).id, .int .i64 (getD [z0, z1, z2, z3, z4, z5, z6, z7, z8]).gen, .int .i64 (getD [z0, z1, z2, z3, z4, z5, z6, z7, z8]).role, .int .i64 (getD [z0, z1, z2, z3, z4, z5, z6, z7, z8]).n, .int .i64 (getD [z0, z1, z2, z3, z4, z5, z6, z7, z8]).s, .int .i64 (getD [z0, z1, z2, z3, z4, z5, z6, z7, z8]).tail, .int .i64 (getD [z0, z1, z2, z3, z4, z5, z6, z7, z8]).lost, .int .i64 (getD [z0, z1, z2, z3, z4, z5, z6, z7, z8]).built] : Value) = .agg #[.int .i64 z1, .int .i64 z2, .int .i64 z3, .int .i64 z4, .int .i64 z5, .int .i64 z6, .int .i64 l7, .int .i64 z8] := by rw [getD_of h, ← hw]; rfl
theorem getB_head {z0 z1 z2 z3 z4 z5 z6 z7 z8 : Int} (h : ¬ z0 = 21317) : getB [z0, z1, z2, z3, z4, z5, z6, z7, z8] = false := by unfold getB; simp [h]
theorem getB_sup {z0 z1 z2 z3 z4 z5 z6 z7 z8 l7 : Int} (hw : IntKind.i64.wrap (z7 - 1) = l7) (h0 : z0 = 21317) : getB [z0, z1, z2, z3, z4, z5, z6, z7, z8] = supB ⟨z1, z2, z3, z4, z5, z6, l7, z8⟩ := by subst h0; subst hw; unfold getB; simp [ofW]

set_option maxHeartbeats 3200000 in
theorem specGetSuper_any (w : World) (a : Option Addr) (n cap : Nat) (zs : List Int) (hr : Reads .i64 w a zs) (hn : zs.length = n) (hm : n ≤ 2097152) : Calls Try.prog 111 #[.slice a n cap] w fun e w' => e = .returned (.tuple #[.agg #[.int .i64 (getD zs).id, .int .i64 (getD zs).gen, .int .i64 (getD zs).role, .int .i64 (getD zs).n, .int .i64 (getD zs).s, .int .i64 (getD zs).tail, .int .i64 (getD zs).lost, .int .i64 (getD zs).built], .bool (getB zs)]) ∧ Below w.heap.size w w' := by
  have hA := new_below w (.cells #[.int .i64 0, .int .i64 0, .int .i64 0, .int .i64 0, .int .i64 0, .int .i64 0, .int .i64 0, .int .i64 0] 80)
  by_cases h9 : n = 9
  · subst h9
    obtain ⟨z0, z1, z2, z3, z4, z5, z6, z7, z8, rfl⟩ := nine9 hn
    obtain ⟨b, off, rfl, hb, q0, q1, q2, q3, q4, q5, q6, q7, q8⟩ := hr.nine
    have c0 := (hA.cell (p := ⟨b, off, none⟩) hb).trans q0
    obtain ⟨l7, hl7⟩ : ∃ l, IntKind.i64.wrap (z7 - 1) = l := ⟨_, rfl⟩
    by_cases h0 : z0 = 21317
    · have HB := getB_sup (z1 := z1) (z2 := z2) (z3 := z3) (z4 := z4) (z5 := z5) (z6 := z6) (z8 := z8) hl7 h0
      have c1 := (hA.cell (p := ⟨b, off + 1, none⟩) hb).trans q1
      have c2 := (hA.cell (p := ⟨b, off + 2, none⟩) hb).trans q2
      have c3 := (hA.cell (p := ⟨b, off + 3, none⟩) hb).trans q3
      have c4 := (hA.cell (p := ⟨b, off + 4, none⟩) hb).trans q4
      have c5 := (hA.cell (p := ⟨b, off + 5, none⟩) hb).trans q5
      have c6 := (hA.cell (p := ⟨b, off + 6, none⟩) hb).trans q6
      have c7 := (hA.cell (p := ⟨b, off + 7, none⟩) hb).trans q7
      have c8 := (hA.cell (p := ⟨b, off + 8, none⟩) hb).trans q8
      have hA2 := hA.alloc hA.size (.cells #[.int .i64 z1, .int .i64 z2, .int .i64 z3, .int .i64 z4, .int .i64 z5, .int .i64 z6, .int .i64 l7, .int .i64 z8] 80)
      have X2 := Box.new (w.alloc (.cells #[.int .i64 0, .int .i64 0, .int .i64 0, .int .i64 0, .int .i64 0, .int .i64 0, .int .i64 0, .int .i64 0] 80)) 80 #[.int .i64 z1, .int .i64 z2, .int .i64 z3, .int .i64 z4, .int .i64 z5, .int .i64 z6, .int .i64 l7, .int .i64 z8]
      have R2 := (Box.new w 80 #[.int .i64 0, .int .i64 0, .int .i64 0, .int .i64 0, .int .i64 0, .int .i64 0, .int .i64 0, .int .i64 0]).alloc (.cells #[.int .i64 z1, .int .i64 z2, .int .i64 z3, .int .i64 z4, .int .i64 z5, .int .i64 z6, .int .i64 l7, .int .i64 z8] 80)
      rw [World.size_alloc] at X2
      have hA3 := hA2.drew
      have X3 : Box ((w.alloc (.cells #[.int .i64 0, .int .i64 0, .int .i64 0, .int .i64 0, .int .i64 0, .int .i64 0, .int .i64 0, .int .i64 0] 80)).alloc (.cells #[.int .i64 z1, .int .i64 z2, .int .i64 z3, .int .i64 z4, .int .i64 z5, .int .i64 z6, .int .i64 l7, .int .i64 z8] 80)).drew (w.heap.size + 1) 80 #[.int .i64 z1, .int .i64 z2, .int .i64 z3, .int .i64 z4, .int .i64 z5, .int .i64 z6, .int .i64 l7, .int .i64 z8] := X2
      have R3 : Box ((w.alloc (.cells #[.int .i64 0, .int .i64 0, .int .i64 0, .int .i64 0, .int .i64 0, .int .i64 0, .int .i64 0, .int .i64 0] 80)).alloc (.cells #[.int .i64 z1, .int .i64 z2, .int .i64 z3, .int .i64 z4, .int .i64 z5, .int .i64 z6, .int .i64 l7, .int .i64 z8] 80)).drew w.heap.size 80 #[.int .i64 0, .int .i64 0, .int .i64 0, .int .i64 0, .int .i64 0, .int .i64 0, .int .i64 0, .int .i64 0] := R2
      clear hA2 X2 R2
      have HR := hidden R3
      have HX := hidden X3
      have HA3 := hidden hA3
      clear R3 X3 hA3
      by_cases hs : supB ⟨z1, z2, z3, z4, z5, z6, l7, z8⟩ = true
      · have hB := HB.trans hs
        rw [get_full hl7 hB, hB]
        clear HB hB
        have hs' := hidden hs
        clear hs
        go_enter Try.func111, Try.ntmps111
        go_wp2_with fail
        go_region_held3 (fun w' => w'.cell? ⟨b, off + 1, none⟩ = some (.int .i64 z1) ∧ w'.cell? ⟨b, off + 2, none⟩ = some (.int .i64 z2) ∧ w'.cell? ⟨b, off + 3, none⟩ = some (.int .i64 z3) ∧ w'.cell? ⟨b, off + 4, none⟩ = some (.int .i64 z4) ∧ w'.cell? ⟨b, off + 5, none⟩ = some (.int .i64 z5) ∧ w'.cell? ⟨b, off + 6, none⟩ = some (.int .i64 z6) ∧ w'.cell? ⟨b, off + 7, none⟩ = some (.int .i64 z7) ∧ w'.cell? ⟨b, off + 8, none⟩ = some (.int .i64 z8)) (first | (exact ⟨c1, c2, c3, c4, c5, c6, c7, c8⟩) | go_keep) (fail)
        generalize ((w.alloc (.cells #[.int .i64 0, .int .i64 0, .int .i64 0, .int .i64 0, .int .i64 0, .int .i64 0, .int .i64 0, .int .i64 0] 80)).alloc (.cells #[.int .i64 z1, .int .i64 z2, .int .i64 z3, .int .i64 z4, .int .i64 z5, .int .i64 z6, .int .i64 l7, .int .i64 z8] 80)).drew = W at HR HX HA3 ⊢
        clear c0 c1 c2 c3 c4 c5 c6 c7 c8 q0 q1 q2 q3 q4 q5 q6 q7 q8 hr hA
        obtain ⟨x0, x1, x2, x3, x4, x5, x6, x7⟩ := HX.out.cells8
        go_wp2_with fail
        refine (specSuperOk_any _ ⟨z1, z2, z3, z4, z5, z6, l7, z8⟩).mono ?_
        rintro e w1 ⟨rfl, b1⟩
        have R1 := HR.out.below b1 HR.out.lt
        have X1 := HX.out.below b1 HX.out.lt
        have B1 := hidden (Below.andThen HA3.out b1)
        clear x0 x1 x2 x3 x4 x5 x6 x7 HR HX HA3 b1
        rw [hs'.out]
        obtain ⟨x0, x1, x2, x3, x4, x5, x6, x7⟩ := X1.cells8
        obtain ⟨p0, p1, p2, p3, p4, p5, p6, p7⟩ := R1.cells8
        have fz := R1.frozen
        have FB := hidden (Below.andBut B1.out (set8_but w1 w.heap.size (.int .i64 z1) (.int .i64 z2) (.int .i64 z3) (.int .i64 z4) (.int .i64 z5) (.int .i64 z6) (.int .i64 l7) (.int .i64 z8)) (Nat.le_refl _))
        unfold set8 at FB
        go_wp2
        refine bodyPost_ret (v := .tuple #[.agg #[.int .i64 z1, .int .i64 z2, .int .i64 z3, .int .i64 z4, .int .i64 z5, .int .i64 z6, .int .i64 l7, .int .i64 z8], .bool true]) (by simp [results, Try.results111, go_sem, p0, p1, p2, p3, p4, p5, p6, p7]) rfl ?_
        exact ⟨rfl, FB.out⟩
      · have hs1 : supB ⟨z1, z2, z3, z4, z5, z6, l7, z8⟩ = false := by simpa using hs
        have hB := HB.trans hs1
        rw [get_zero hB, hB]
        clear HB hB hs
        have hs' := hidden hs1
        clear hs1
        go_enter Try.func111, Try.ntmps111
        go_wp2_with fail
        go_region_held3 (fun w' => w'.cell? ⟨b, off + 1, none⟩ = some (.int .i64 z1) ∧ w'.cell? ⟨b, off + 2, none⟩ = some (.int .i64 z2) ∧ w'.cell? ⟨b, off + 3, none⟩ = some (.int .i64 z3) ∧ w'.cell? ⟨b, off + 4, none⟩ = some (.int .i64 z4) ∧ w'.cell? ⟨b, off + 5, none⟩ = some (.int .i64 z5) ∧ w'.cell? ⟨b, off + 6, none⟩ = some (.int .i64 z6) ∧ w'.cell? ⟨b, off + 7, none⟩ = some (.int .i64 z7) ∧ w'.cell? ⟨b, off + 8, none⟩ = some (.int .i64 z8)) (first | (exact ⟨c1, c2, c3, c4, c5, c6, c7, c8⟩) | go_keep) (fail)
        generalize ((w.alloc (.cells #[.int .i64 0, .int .i64 0, .int .i64 0, .int .i64 0, .int .i64 0, .int .i64 0, .int .i64 0, .int .i64 0] 80)).alloc (.cells #[.int .i64 z1, .int .i64 z2, .int .i64 z3, .int .i64 z4, .int .i64 z5, .int .i64 z6, .int .i64 l7, .int .i64 z8] 80)).drew = W at HR HX HA3 ⊢
        clear c0 c1 c2 c3 c4 c5 c6 c7 c8 q0 q1 q2 q3 q4 q5 q6 q7 q8 hr hA
        obtain ⟨x0, x1, x2, x3, x4, x5, x6, x7⟩ := HX.out.cells8
        go_wp2_with fail
        refine (specSuperOk_any _ ⟨z1, z2, z3, z4, z5, z6, l7, z8⟩).mono ?_
        rintro e w1 ⟨rfl, b1⟩
        have R1 := HR.out.below b1 HR.out.lt
        have B1 := hidden (Below.andThen HA3.out b1)
        clear x0 x1 x2 x3 x4 x5 x6 x7 HR HX HA3 b1
        rw [hs'.out]
        obtain ⟨p0, p1, p2, p3, p4, p5, p6, p7⟩ := R1.cells8
        have fz := R1.frozen
        have FB := hidden (Below.andBut B1.out (set8_but w1 w.heap.size (.int .i64 0) (.int .i64 0) (.int .i64 0) (.int .i64 0) (.int .i64 0) (.int .i64 0) (.int .i64 0) (.int .i64 0)) (Nat.le_refl _))
        unfold set8 at FB
        go_wp2
        refine bodyPost_ret (v := .tuple #[.agg #[.int .i64 0, .int .i64 0, .int .i64 0, .int .i64 0, .int .i64 0, .int .i64 0, .int .i64 0, .int .i64 0], .bool false]) (by simp [results, Try.results111, go_sem, p0, p1, p2, p3, p4, p5, p6, p7]) rfl ?_
        exact ⟨rfl, FB.out⟩
    · have hB := getB_head (z1 := z1) (z2 := z2) (z3 := z3) (z4 := z4) (z5 := z5) (z6 := z6) (z7 := z7) (z8 := z8) h0
      rw [get_zero hB, hB]
      clear hB
      go_enter Try.func111, Try.ntmps111
      go_wp2
      refine bodyPost_ret (v := .tuple #[.agg #[.int .i64 0, .int .i64 0, .int .i64 0, .int .i64 0, .int .i64 0, .int .i64 0, .int .i64 0, .int .i64 0], .bool false]) (by simp [results, Try.results111, go_sem]) rfl ?_
      exact ⟨rfl, hA⟩
  · have hB : getB zs = false := getB_len (by omega)
    rw [get_zero hB, hB]
    clear hB
    have h9' : ¬ (n : Int) = 9 := by omega
    go_enter Try.func111, Try.ntmps111
    go_wp2
    refine bodyPost_ret (v := .tuple #[.agg #[.int .i64 0, .int .i64 0, .int .i64 0, .int .i64 0, .int .i64 0, .int .i64 0, .int .i64 0, .int .i64 0], .bool false]) (by simp [results, Try.results111, go_sem]) rfl ?_
    exact ⟨rfl, hA⟩

set_option maxHeartbeats 3200000 in
theorem implGetSuper_any (w : World) (a : Option Addr) (n cap : Nat) (zs : List Int) (hr : Reads .i64 w a zs) (hn : zs.length = n) (hm : n ≤ 2097152) : Calls Try.prog 120 #[.slice a n cap] w fun e w' => e = .returned (.tuple #[.agg #[.int .i64 (getD zs).id, .int .i64 (getD zs).gen, .int .i64 (getD zs).role, .int .i64 (getD zs).n, .int .i64 (getD zs).s, .int .i64 (getD zs).tail, .int .i64 (getD zs).lost, .int .i64 (getD zs).built], .bool (getB zs)]) ∧ Below w.heap.size w w' := by
  have hA := (new_below w (.cells #[.int .i64 0, .int .i64 0, .int .i64 0, .int .i64 0, .int .i64 0, .int .i64 0, .int .i64 0, .int .i64 0] 80)).alloc (by simp) (.cells #[.int .i64 0, .int .i64 0, .int .i64 0, .int .i64 0, .int .i64 0, .int .i64 0, .int .i64 0, .int .i64 0, .int .i64 0] 135)
  by_cases h9 : n = 9
  · subst h9
    obtain ⟨z0, z1, z2, z3, z4, z5, z6, z7, z8, rfl⟩ := nine9 hn
    obtain ⟨b, off, rfl, hb, q0, q1, q2, q3, q4, q5, q6, q7, q8⟩ := hr.nine
    obtain ⟨l7, hl7⟩ : ∃ l, IntKind.i64.wrap (z7 - 1) = l := ⟨_, rfl⟩
    have X1 := Box.new (w.alloc (.cells #[.int .i64 0, .int .i64 0, .int .i64 0, .int .i64 0, .int .i64 0, .int .i64 0, .int .i64 0, .int .i64 0] 80)) 135 #[.int .i64 0, .int .i64 0, .int .i64 0, .int .i64 0, .int .i64 0, .int .i64 0, .int .i64 0, .int .i64 0, .int .i64 0]
    have R1 := (Box.new w 80 #[.int .i64 0, .int .i64 0, .int .i64 0, .int .i64 0, .int .i64 0, .int .i64 0, .int .i64 0, .int .i64 0]).alloc (.cells #[.int .i64 0, .int .i64 0, .int .i64 0, .int .i64 0, .int .i64 0, .int .i64 0, .int .i64 0, .int .i64 0, .int .i64 0] 135)
    rw [World.size_alloc] at X1
    obtain ⟨W, hW⟩ : ∃ W, (w.alloc (.cells #[.int .i64 0, .int .i64 0, .int .i64 0, .int .i64 0, .int .i64 0, .int .i64 0, .int .i64 0, .int .i64 0] 80)).alloc (.cells #[.int .i64 0, .int .i64 0, .int .i64 0, .int .i64 0, .int .i64 0, .int .i64 0, .int .i64 0, .int .i64 0, .int .i64 0] 135) = W := ⟨_, rfl⟩
    rw [hW] at hA X1 R1
    have hrW := hr.old (B := w.heap.size) (by intro x hx; simp at hx; rw [← hx]; exact hb) hA
    have hcp : ∀ ty, (Builtin.copy_ #[39, 39] ty #[.slice (some ⟨w.heap.size + 1, 0, none⟩) 9 9, .slice (some ⟨b, off, none⟩) 9 cap]).run Try.prog W = .ok (goInt 9) (W.setCells (w.heap.size + 1) 0 ([z0, z1, z2, z3, z4, z5, z6, z7, z8].map (Value.int .i64))) := fun ty =>
      run_copy_cells W 39 39 ty 3 (w.heap.size + 1) 0 9 9 ⟨b, off, none⟩ 9 cap ([z0, z1, z2, z3, z4, z5, z6, z7, z8].map (Value.int .i64)) Try.underlying39 (by kernel_rfl) rfl hrW.cells
        (fun j hj => by rw [Nat.zero_add, X1.cell j, Array.getElem?_eq_getElem (by simpa using hj)]; rfl) (fun j hj => X1.frozen _) (ints_plain _)
    obtain ⟨X2, t2⟩ := box_full (cs := [z0, z1, z2, z3, z4, z5, z6, z7, z8].map (Value.int .i64)) X1 rfl
    have R2 := R1.turned t2 (by simp)
    have B2 := hA.trans (t2.below (N := w.heap.size) hA.size (by simp))
    have hX2 : ([z0, z1, z2, z3, z4, z5, z6, z7, z8].map (Value.int .i64)).toArray = #[.int .i64 z0, .int .i64 z1, .int .i64 z2, .int .i64 z3, .int .i64 z4, .int .i64 z5, .int .i64 z6, .int .i64 z7, .int .i64 z8] := rfl
    rw [hX2] at X2
    generalize W.setCells (w.heap.size + 1) 0 ([z0, z1, z2, z3, z4, z5, z6, z7, z8].map (Value.int .i64)) = W2 at hcp X2 R2 B2
    clear hX2 t2 X1 R1 hrW hA q0 q1 q2 q3 q4 q5 q6 q7 q8 hr hb
    subst hW
    obtain ⟨x0, x1, x2, x3, x4, x5, x6, x7, x8⟩ := X2.cells9
    have XX := hidden X2
    have RR := hidden R2
    have BB := hidden B2
    clear X2 R2 B2
    by_cases h0 : z0 = 21317
    · have HB := getB_sup (z1 := z1) (z2 := z2) (z3 := z3) (z4 := z4) (z5 := z5) (z6 := z6) (z8 := z8) hl7 h0
      subst h0
      by_cases hs : supB ⟨z1, z2, z3, z4, z5, z6, l7, z8⟩ = true
      · have hB := HB.trans hs
        rw [get_full hl7 hB, hB]
        clear HB hB
        have hs' := hidden hs
        clear hs
        go_enter Try.func120, Try.ntmps120
        go_wp2_with fail
        refine (superOfWords_any _ _ z1 z2 z3 z4 z5 z6 z7 z8 l7 hl7).mono ?_
        rintro e w3 ⟨rfl, b3⟩
        have zX := XX.out.lt
        have R3 := RR.out.below b3 RR.out.lt
        have A3 := XX.out.below b3 zX
        have B3 := Below.andThen BB.out b3
        clear x0 x1 x2 x3 x4 x5 x6 x7 x8 XX RR BB b3 hcp zX
        have R4 := hidden (R3.alloc (.cells #[.int .i64 z1, .int .i64 z2, .int .i64 z3, .int .i64 z4, .int .i64 z5, .int .i64 z6, .int .i64 l7, .int .i64 z8] 80))
        have A4 := hidden (A3.alloc (.cells #[.int .i64 z1, .int .i64 z2, .int .i64 z3, .int .i64 z4, .int .i64 z5, .int .i64 z6, .int .i64 l7, .int .i64 z8] 80))
        have X4 := hidden (Box.new w3 80 #[.int .i64 z1, .int .i64 z2, .int .i64 z3, .int .i64 z4, .int .i64 z5, .int .i64 z6, .int .i64 l7, .int .i64 z8])
        have B4 := hidden (B3.alloc B3.size (.cells #[.int .i64 z1, .int .i64 z2, .int .i64 z3, .int .i64 z4, .int .i64 z5, .int .i64 z6, .int .i64 l7, .int .i64 z8] 80))
        clear R3 A3 B3
        obtain ⟨x0, x1, x2, x3, x4, x5, x6, x7⟩ := X4.out.cells8
        have ya := A4.out.cell 0
        go_wp2_with fail
        generalize w3.alloc (.cells #[.int .i64 z1, .int .i64 z2, .int .i64 z3, .int .i64 z4, .int .i64 z5, .int .i64 z6, .int .i64 l7, .int .i64 z8] 80) = w4 at R4 A4 X4 B4 x0 x1 x2 x3 x4 x5 x6 x7 ya ⊢
        refine (implSuperOk_any _ ⟨z1, z2, z3, z4, z5, z6, l7, z8⟩).mono ?_
        rintro e w5 ⟨rfl, b5⟩
        have R5 := R4.out.below b5 R4.out.lt
        have X5 := X4.out.below b5 X4.out.lt
        have B5 := hidden (Below.andThen B4.out b5)
        clear x0 x1 x2 x3 x4 x5 x6 x7 R4 X4 B4 A4 b5
        rw [hs'.out]
        obtain ⟨x0, x1, x2, x3, x4, x5, x6, x7⟩ := X5.cells8
        obtain ⟨p0, p1, p2, p3, p4, p5, p6, p7⟩ := R5.cells8
        have fz := R5.frozen
        have FB := hidden (Below.andBut B5.out (set8_but w5 w.heap.size (.int .i64 z1) (.int .i64 z2) (.int .i64 z3) (.int .i64 z4) (.int .i64 z5) (.int .i64 z6) (.int .i64 l7) (.int .i64 z8)) (Nat.le_refl _))
        unfold set8 at FB
        go_wp2
        refine bodyPost_ret (v := .tuple #[.agg #[.int .i64 z1, .int .i64 z2, .int .i64 z3, .int .i64 z4, .int .i64 z5, .int .i64 z6, .int .i64 l7, .int .i64 z8], .bool true]) (by simp [results, Try.results120, go_sem, p0, p1, p2, p3, p4, p5, p6, p7]) rfl ?_
        exact ⟨rfl, FB.out⟩
      · have hs1 : supB ⟨z1, z2, z3, z4, z5, z6, l7, z8⟩ = false := by simpa using hs
        have hB := HB.trans hs1
        rw [get_zero hB, hB]
        clear HB hB hs
        have hs' := hidden hs1
        clear hs1
        go_enter Try.func120, Try.ntmps120
        go_wp2_with fail
        refine (superOfWords_any _ _ z1 z2 z3 z4 z5 z6 z7 z8 l7 hl7).mono ?_
        rintro e w3 ⟨rfl, b3⟩
        have zX := XX.out.lt
        have R3 := RR.out.below b3 RR.out.lt
        have A3 := XX.out.below b3 zX
        have B3 := Below.andThen BB.out b3
        clear x0 x1 x2 x3 x4 x5 x6 x7 x8 XX RR BB b3 hcp zX
        have R4 := hidden (R3.alloc (.cells #[.int .i64 z1, .int .i64 z2, .int .i64 z3, .int .i64 z4, .int .i64 z5, .int .i64 z6, .int .i64 l7, .int .i64 z8] 80))
        have A4 := hidden (A3.alloc (.cells #[.int .i64 z1, .int .i64 z2, .int .i64 z3, .int .i64 z4, .int .i64 z5, .int .i64 z6, .int .i64 l7, .int .i64 z8] 80))
        have X4 := hidden (Box.new w3 80 #[.int .i64 z1, .int .i64 z2, .int .i64 z3, .int .i64 z4, .int .i64 z5, .int .i64 z6, .int .i64 l7, .int .i64 z8])
        have B4 := hidden (B3.alloc B3.size (.cells #[.int .i64 z1, .int .i64 z2, .int .i64 z3, .int .i64 z4, .int .i64 z5, .int .i64 z6, .int .i64 l7, .int .i64 z8] 80))
        clear R3 A3 B3
        obtain ⟨x0, x1, x2, x3, x4, x5, x6, x7⟩ := X4.out.cells8
        have ya := A4.out.cell 0
        go_wp2_with fail
        generalize w3.alloc (.cells #[.int .i64 z1, .int .i64 z2, .int .i64 z3, .int .i64 z4, .int .i64 z5, .int .i64 z6, .int .i64 l7, .int .i64 z8] 80) = w4 at R4 A4 X4 B4 x0 x1 x2 x3 x4 x5 x6 x7 ya ⊢
        refine (implSuperOk_any _ ⟨z1, z2, z3, z4, z5, z6, l7, z8⟩).mono ?_
        rintro e w5 ⟨rfl, b5⟩
        have R5 := R4.out.below b5 R4.out.lt
        have B5 := hidden (Below.andThen B4.out b5)
        clear x0 x1 x2 x3 x4 x5 x6 x7 R4 X4 B4 A4 b5
        rw [hs'.out]
        obtain ⟨p0, p1, p2, p3, p4, p5, p6, p7⟩ := R5.cells8
        have fz := R5.frozen
        have FB := hidden (Below.andBut B5.out (set8_but w5 w.heap.size (.int .i64 0) (.int .i64 0) (.int .i64 0) (.int .i64 0) (.int .i64 0) (.int .i64 0) (.int .i64 0) (.int .i64 0)) (Nat.le_refl _))
        unfold set8 at FB
        go_wp2
        refine bodyPost_ret (v := .tuple #[.agg #[.int .i64 0, .int .i64 0, .int .i64 0, .int .i64 0, .int .i64 0, .int .i64 0, .int .i64 0, .int .i64 0], .bool false]) (by simp [results, Try.results120, go_sem, p0, p1, p2, p3, p4, p5, p6, p7]) rfl ?_
        exact ⟨rfl, FB.out⟩
    · have hB := getB_head (z1 := z1) (z2 := z2) (z3 := z3) (z4 := z4) (z5 := z5) (z6 := z6) (z7 := z7) (z8 := z8) h0
      rw [get_zero hB, hB]
      clear hB
      go_enter Try.func120, Try.ntmps120
      go_wp2_with fail
      refine (superOfWords_any _ _ z1 z2 z3 z4 z5 z6 z7 z8 l7 hl7).mono ?_
      rintro e w3 ⟨rfl, b3⟩
      have zX := XX.out.lt
      have R3 := RR.out.below b3 RR.out.lt
      have A3 := XX.out.below b3 zX
      have B3 := Below.andThen BB.out b3
      have zA := A3.lt
      clear x0 x1 x2 x3 x4 x5 x6 x7 x8 XX RR BB b3 hcp zX
      obtain ⟨p0, p1, p2, p3, p4, p5, p6, p7⟩ := R3.cells8
      have R4 := R3.alloc (.cells #[.int .i64 z1, .int .i64 z2, .int .i64 z3, .int .i64 z4, .int .i64 z5, .int .i64 z6, .int .i64 l7, .int .i64 z8] 80)
      obtain ⟨r0, r1, r2, r3, r4, r5, r6, r7⟩ := R4.cells8
      have fz := R4.frozen
      have ya := A3.cell 0
      have FB4 := hidden (Below.andBut (B3.alloc B3.size (.cells #[.int .i64 z1, .int .i64 z2, .int .i64 z3, .int .i64 z4, .int .i64 z5, .int .i64 z6, .int .i64 l7, .int .i64 z8] 80)) (set8_but _ w.heap.size (.int .i64 0) (.int .i64 0) (.int .i64 0) (.int .i64 0) (.int .i64 0) (.int .i64 0) (.int .i64 0) (.int .i64 0)) (Nat.le_refl _))
      unfold set8 at FB4
      clear B3 R3 R4 A3 p0 p1 p2 p3 p4 p5 p6 p7
      go_wp2
      refine bodyPost_ret (v := .tuple #[.agg #[.int .i64 0, .int .i64 0, .int .i64 0, .int .i64 0, .int .i64 0, .int .i64 0, .int .i64 0, .int .i64 0], .bool false]) (by simp [results, Try.results120, go_sem, r0, r1, r2, r3, r4, r5, r6, r7]) rfl ?_
      exact ⟨rfl, FB4.out⟩
  · have hB : getB zs = false := getB_len (by omega)
    rw [get_zero hB, hB]
    clear hB
    have h9' : ¬ (n : Int) = 9 := by omega
    go_enter Try.func120, Try.ntmps120
    go_wp2
    refine bodyPost_ret (v := .tuple #[.agg #[.int .i64 0, .int .i64 0, .int .i64 0, .int .i64 0, .int .i64 0, .int .i64 0, .int .i64 0, .int .i64 0], .bool false]) (by simp [results, Try.results120, go_sem]) rfl ?_
    exact ⟨rfl, hA⟩

end Go.Proofs.Ytlcjfgmmjkandaa

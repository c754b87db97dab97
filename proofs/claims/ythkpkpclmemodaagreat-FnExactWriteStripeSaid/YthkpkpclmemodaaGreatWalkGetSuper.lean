/-
  Both GetSuper (the program's and the specification's) answer as the definitions here say. Condition: at most 2097152 words.
-/
import Derived.Test.YthkpkpclmemodaaGreatWalkPutSuper
import Derived.Laws.IdiomCopy
namespace Go.Proofs.YthkpkpclmemodaaGreat
open Go.RowKit

def ofW (zs : List Int) : Sup := ⟨zs.getD 1 0, zs.getD 2 0, zs.getD 3 0, zs.getD 4 0, zs.getD 5 0, zs.getD 6 0, IntKind.i64.wrap (zs.getD 7 0 - 1), zs.getD 8 0⟩
def getB (zs : List Int) : Bool := decide (zs.length = 9) && (decide (zs.getD 0 0 = 21317) && supB (ofW zs))
def getD (zs : List Int) : Sup := if getB zs = true then ofW zs else supZ
theorem getB_len {zs : List Int} (h : ¬ zs.length = 9) : getB zs = false := by unfold getB; simp [h]
theorem getD_not {zs : List Int} (h : getB zs = false) : getD zs = supZ := by unfold getD; rw [if_neg (by simp [h])]
theorem getD_of {zs : List Int} (h : getB zs = true) : getD zs = ofW zs := by unfold getD; rw [if_pos h]
theorem Reads.nine {w : World} {a : Option Addr} {z0 z1 z2 z3 z4 z5 z6 z7 z8 : Int} (h : Reads .i64 w a [z0, z1, z2, z3, z4, z5, z6, z7, z8]) :
    ∃ b off, a = some ⟨b, off, none⟩ ∧ b < w.heap.size ∧ w.cell? ⟨b, off, none⟩ = some (.int .i64 z0) ∧ w.cell? ⟨b, off + 1, none⟩ = some (.int .i64 z1) ∧ w.cell? ⟨b, off + 2, none⟩ = some (.int .i64 z2) ∧ w.cell? ⟨b, off + 3, none⟩ = some (.int .i64 z3) ∧ w.cell? ⟨b, off + 4, none⟩ = some (.int .i64 z4) ∧ w.cell? ⟨b, off + 5, none⟩ = some (.int .i64 z5) ∧ w.cell? ⟨b, off + 6, none⟩ = some (.int .i64 z6) ∧ w.cell? ⟨b, off + 7, none⟩ = some (.int .i64 z7) ∧ w.cell? ⟨b, off + 8, none⟩ = some (.int .i64 z8) := by
  rcases h with h | ⟨b, off, ha, hlt, hc⟩
  · simp at h
  · exact ⟨b, off, ha, hlt, hc 0 (by simp), hc 1 (by simp), hc 2 (by simp), hc 3 (by simp), hc 4 (by simp), hc 5 (by simp), hc 6 (by simp), hc 7 (by simp), hc 8 (by simp)⟩
theorem Box.cells9 {w : World} {B : Nat} {T : TypeId} {v0 v1 v2 v3 v4 v5 v6 v7 v8 : Value} (h : Box w B T #[v0, v1, v2, v3, v4, v5, v6, v7, v8]) : w.cell? ⟨B, 0, none⟩ = some v0 ∧ w.cell? ⟨B, 1, none⟩ = some v1 ∧ w.cell? ⟨B, 2, none⟩ = some v2 ∧ w.cell? ⟨B, 3, none⟩ = some v3 ∧ w.cell? ⟨B, 4, none⟩ = some v4 ∧ w.cell? ⟨B, 5, none⟩ = some v5 ∧ w.cell? ⟨B, 6, none⟩ = some v6 ∧ w.cell? ⟨B, 7, none⟩ = some v7 ∧ w.cell? ⟨B, 8, none⟩ = some v8 := ⟨h.cell 0, h.cell 1, h.cell 2, h.cell 3, h.cell 4, h.cell 5, h.cell 6, h.cell 7, h.cell 8⟩
/-- A block's cells set one by one. -/
theorem box_setCells {T : TypeId} {B : Nat} : ∀ (cs : List Value) (o : Nat) (w : World) (ds : Array Value), Box w B T ds → ∃ es : Array Value, Box (w.setCells B o cs) B T es ∧ es.size = ds.size ∧ Turned [B] w (w.setCells B o cs)
  | [], _, w, ds, h => ⟨ds, h, rfl, Turned.refl _ _⟩
  | c :: r, o, w, ds, h => by
    obtain ⟨es, h1, h2, h3⟩ := box_setCells r (o + 1) (w.setCell ⟨B, o, none⟩ c) _ (h.set o c)
    refine ⟨es, h1, by rw [h2]; simp, Turned.trans (Turned.setCell c (by simp)) h3⟩
theorem box_full {T : TypeId} {B : Nat} {cs : List Value} {w : World} {ds : Array Value} (h : Box w B T ds) (hl : cs.length = ds.size) : Box (w.setCells B 0 cs) B T cs.toArray ∧ Turned [B] w (w.setCells B 0 cs) := by
  obtain ⟨es, h1, h2, h3⟩ := box_setCells cs 0 w ds h
  have e : es = cs.toArray := by
    apply Array.ext
    · simp [h2, hl]
    · intro i hi hi'
      have hc := World.cell?_setCells_in B cs 0 w (fun j hj => by rw [Nat.zero_add, h.cell j, Array.getElem?_eq_getElem (by omega)]; rfl) i (by simpa using hi')
      rw [Nat.zero_add, h1.cell i, Array.getElem?_eq_getElem hi] at hc
      simpa using hc
  rw [e] at h1
  exact ⟨h1, h3⟩

/-- A block's first eight cells set. -/
def set8 (w : World) (B : Nat) (v0 v1 v2 v3 v4 v5 v6 v7 : Value) : World := ((((((((w).setCell ⟨B, 0, none⟩ v0).setCell ⟨B, 1, none⟩ v1).setCell ⟨B, 2, none⟩ v2).setCell ⟨B, 3, none⟩ v3).setCell ⟨B, 4, none⟩ v4).setCell ⟨B, 5, none⟩ v5).setCell ⟨B, 6, none⟩ v6).setCell ⟨B, 7, none⟩ v7
theorem set8_but (w : World) (B : Nat) (v0 v1 v2 v3 v4 v5 v6 v7 : Value) : But B (B + 1) w (set8 w B v0 v1 v2 v3 v4 v5 v6 v7) := by
  unfold set8
  exact (((((((But.setCell (by omega) (by omega) _).trans (But.setCell (by omega) (by omega) _)).trans (But.setCell (by omega) (by omega) _)).trans (But.setCell (by omega) (by omega) _)).trans (But.setCell (by omega) (by omega) _)).trans (But.setCell (by omega) (by omega) _)).trans (But.setCell (by omega) (by omega) _)).trans (But.setCell (by omega) (by omega) _)

theorem get_zero {zs : List Int} (h : getB zs = false) : (.agg #[.int .i64 (getD zs).id, .int .i64 (getD zs).gen, .int .i64 (getD zs).role, .int .i64 (getD zs).n, .int .i64 (getD zs).s, .int .i64 (getD zs).tail, .int .i64 (getD zs).lost, .int .i64 (getD zs).built] : Value) = .agg #[.int .i64 0, .int .i64 0, .int .i64 0, .int .i64 0, .int .i64 0, .int .i64 0, .int .i64 0, .int .i64 0] := by rw [getD_not h]; rfl
theorem get_full {z0 z1 z2 z3 z4 z5 z6 z7 z8 l7 : Int} (hw : IntKind.i64.wrap (z7 - 1) = l7) (h : getB [z0, z1, z2, z3, z4, z5, z6, z7, z8] = true) : (.agg #[.int .i64 (getD [z0, z1, z2, z3, z4, z5, z6, z7, z8]).id, .int .i64 (getD [z0, z1, z2, z3, z4, z5, z6, z7, z8]).gen, .int .i64 (getD [z0, z1, z2, z3, z4, z5, z6, z7, z8]).role, .int .i64 (getD [z0, z1, z2, z3, z4, z5, z6, z7, z8]).n, .int .i64 (getD [z0, z1, z2, z3, z4, z5, z6, z7, z8]).s, .int .i64 (getD [z0, z1, z2, z3, z4, z5, z6, z7, z8]).tail, .int .i64 (getD [z0, z1, z2, z3, z4, z5, z6, z7, z8]).lost, .int .i64 (getD [z0, z1, z2, z3, z4, z5, z6, z7, z8]).built] : Value) = .agg #[.int .i64 z1, .int .i64 z2, .int .i64 z3, .int .i64 z4, .int .i64 z5, .int .i64 z6, .int .i64 l7, .int .i64 z8] := by rw [getD_of h, ← hw]; rfl
theorem getB_head {z0 z1 z2 z3 z4 z5 z6 z7 z8 : Int} (h : ¬ z0 = 21317) : getB [z0, z1, z2, z3, z4, z5, z6, z7, z8] = false := by unfold getB; simp [h]
theorem getB_sup {z0 z1 z2 z3 z4 z5 z6 z7 z8 l7 : Int} (hw : IntKind.i64.wrap (z7 - 1) = l7) (h0 : z0 = 21317) : getB [z0, z1, z2, z3, z4, z5, z6, z7, z8] = supB ⟨z1, z2, z3, z4, z5, z6, l7, z8⟩ := by subst h0; subst hw; unfold getB; simp [ofW]

end Go.Proofs.YthkpkpclmemodaaGreat

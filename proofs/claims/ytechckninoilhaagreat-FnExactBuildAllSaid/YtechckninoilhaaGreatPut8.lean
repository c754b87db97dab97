/-
  An entry put in its place among the entries that are only in memory: plain lemmas. No condition.
-/
import Derived.Test.YtechckninoilhaaGreatArr7
import Derived.Test.YtechckninoilhaaGreatWalk8a
namespace Go.Proofs.YtechckninoilhaaGreat
open Go.RowKit

abbrev EntD := Int × List Int
/-- One step of the specification's loop: what is laid out so far, and whether the entry is among it. -/
def putSt (e : EntD) (q : List EntD × Bool) (d : EntD) : List EntD × Bool :=
  let q1 := if q.2 = false ∧ e.1 ≤ d.1 then (q.1 ++ [e], true) else q
  if d.1 = e.1 then q1 else (q1.1 ++ [d], q1.2)
def putQ (ds : List EntD) (e : EntD) (j : Nat) : List EntD × Bool := (ds.take j).foldl (putSt e) ([], false)
def put8 (ds : List EntD) (e : EntD) : List EntD := if (putQ ds e ds.length).2 = true then (putQ ds e ds.length).1 else (putQ ds e ds.length).1 ++ [e]
theorem putQ_succ {ds : List EntD} {e d : EntD} {j : Nat} (h : ds[j]? = some d) : putQ ds e (j + 1) = putSt e (putQ ds e j) d := by
  unfold putQ
  rw [List.take_add_one, h, List.foldl_append]
  rfl
theorem putSt_len (e : EntD) (q : List EntD × Bool) (d : EntD) : (putSt e q d).1.length ≤ q.1.length + 2 := by
  unfold putSt
  dsimp only
  split <;> split <;> simp <;> omega
theorem putQ_len (ds : List EntD) (e : EntD) : ∀ j, j ≤ ds.length → (putQ ds e j).1.length ≤ 2 * j
  | 0, _ => by simp [putQ]
  | j + 1, h => by
    have ih := putQ_len ds e j (by omega)
    have h1 := putSt_len e (putQ ds e j) (ds[j]'(by omega))
    rw [putQ_succ (List.getElem?_eq_getElem (by omega))]
    omega
/-- A row of entries of one's own, entry by entry: its cells, and the blocks of each. -/
theorem ents_open {w : World} {E : TypeId} {bd : Option Addr} {n cap : Nat} {ds : List EntD} {fd : List Nat} (h : (tWrS E).Mine w [.slice bd n cap] ds fd) :
    ∃ fps : List (List Nat), fps.length = ds.length ∧ fps.flatten.Nodup ∧ (∀ b ∈ fps.flatten, b ∈ fd) ∧ ∀ (i : Nat) (d : EntD), ds[i]? = some d → ∃ (f : List Nat) (g : Nat) (a : Option Addr) (c : Nat), fps[i]? = some f ∧ bd = some ⟨g, 0, none⟩ ∧ g < w.heap.size ∧ g ∈ fd ∧ g ∉ f ∧ w.cell? ⟨g, i * 2, none⟩ = some (.int .i64 d.1) ∧ w.cell? ⟨g, i * 2 + 1, none⟩ = some (.slice a d.2.length c) ∧ tWr.Mine w [.int .i64 d.1, .slice a d.2.length c] d f := by
  obtain ⟨h, hn⟩ := h
  rcases h with ⟨_, h2, _⟩ | ⟨b, cap', cur, fps, h1, h2, h3, h4, h5, h6, h7, h8⟩
  · subst h2
    exact ⟨[], rfl, by simp, by simp, fun i d hd => by simp at hd⟩
  · simp only [List.cons.injEq, Value.slice.injEq, and_true] at h1
    rw [h6, List.nodup_cons] at hn
    refine ⟨fps, h7, hn.2, fun c hc => by rw [h6]; exact List.mem_cons_of_mem _ hc, fun i d hd => ?_⟩
    obtain ⟨f, hf, ho⟩ := h8 i d hd
    have hfn := (flatten_part hn.2 hf).1
    have hgf : b ∉ f := fun hm => hn.1 (List.mem_flatten.2 ⟨f, List.mem_of_getElem? hf, hm⟩)
    have hil := (List.getElem?_eq_some_iff.1 hd).1
    have h5' : cur.size = cap' * 2 := h5
    have hlen : ((cur.toList.drop (i * 2)).take 2).length = 2 := by
      rw [List.length_take, List.length_drop, Array.length_toList, h5']
      omega
    have ho' : tWr.ow w ((cur.toList.drop (i * 2)).take 2) d f := ho
    obtain ⟨v0, v1, hv⟩ : ∃ v0 v1, (cur.toList.drop (i * 2)).take 2 = [v0, v1] := by
      match hq : (cur.toList.drop (i * 2)).take 2, hlen with
      | [v0, v1], _ => exact ⟨v0, v1, rfl⟩
    rw [hv] at ho'
    have hM : tWr.Mine w [v0, v1] d f := ⟨ho', hfn⟩
    obtain ⟨hv0, hr⟩ := wr_rd hM.rd
    obtain ⟨a, c, hv1⟩ := row_shape hr
    have c0 : cur.toList[i * 2]? = some v0 := by
      have : ((cur.toList.drop (i * 2)).take 2)[0]? = some v0 := by rw [hv]; rfl
      rw [List.getElem?_take, if_pos (by omega), List.getElem?_drop] at this
      simpa using this
    have c1 : cur.toList[i * 2 + 1]? = some v1 := by
      have : ((cur.toList.drop (i * 2)).take 2)[1]? = some v1 := by rw [hv]; rfl
      rw [List.getElem?_take, if_pos (by omega), List.getElem?_drop] at this
      simpa using this
    subst hv0 hv1
    refine ⟨f, b, a, c, hf, h1.1, (Array.getElem?_eq_some_iff.1 h4).1, by rw [h6]; exact List.mem_cons_self, hgf, ?_, ?_, hM⟩
    · rw [cell_of_row w b _ cur E (0, 0) h4]; simpa using c0
    · rw [cell_of_row w b _ cur E (0, 0) h4]; simpa using c1

end Go.Proofs.YtechckninoilhaaGreat

/-
  Entries that ascend by stripe, and the place of a stripe among them: plain definitions and lemmas. No condition; nothing of the program is named here.
-/
import Derived.Test.YtechckninoilhaaGreatWalk8a
namespace Go.Proofs.YtechckninoilhaaGreat
open Go.RowKit

/-- Ascending by stripe, in 0 .. 100. -/
def Asc8 (ds : List (Int × List Int)) : Prop := (∀ (i j : Nat) (e e' : Int × List Int), i < j → ds[i]? = some e → ds[j]? = some e' → e.1 < e'.1) ∧ ∀ (i : Nat) (e : Int × List Int), ds[i]? = some e → 0 ≤ e.1 ∧ e.1 ≤ 100
/-- The place of a stripe, and whether its entry stands there. -/
def Spot (ds : List (Int × List Int)) (t : Int) (k : Nat) (b : Bool) : Prop :=
  k ≤ ds.length ∧ (∀ (i : Nat) (e : Int × List Int), i < k → ds[i]? = some e → e.1 < t) ∧ (∀ (i : Nat) (e : Int × List Int), k ≤ i → ds[i]? = some e → t ≤ e.1) ∧ ((b = true ∧ ∃ e, ds[k]? = some e ∧ e.1 = t) ∨ (b = false ∧ ∀ e, ds[k]? = some e → ¬ e.1 = t))
theorem Spot.hit {ds : List (Int × List Int)} {t : Int} {k : Nat} (h : Spot ds t k true) : at8 ds t = (k : Int) ∧ ∃ e, ds[k]? = some e ∧ e.1 = t := by
  obtain ⟨h1, h2, h3, h4⟩ := h
  rcases h4 with ⟨_, e, he, ht⟩ | ⟨h4, _⟩
  · exact ⟨at8_hit he ht (fun i e' hi he' h' => by have := h2 i e' hi he'; omega), e, he, ht⟩
  · cases h4
theorem Spot.miss {ds : List (Int × List Int)} {t : Int} {k : Nat} (ha : Asc8 ds) (h : Spot ds t k false) : at8 ds t = -1 := by
  obtain ⟨h1, h2, h3, h4⟩ := h
  rcases h4 with ⟨h4, _⟩ | ⟨_, h4⟩
  · cases h4
  · refine at8_none (fun i e hi he h' => ?_)
    rcases Nat.lt_trichotomy i k with h | h | h
    · have := h2 i e h he; omega
    · subst h; exact h4 e he h'
    · have hk : k < ds.length := by omega
      have hkk := List.getElem?_eq_getElem hk
      have h5 := h3 k _ (Nat.le_refl _) hkk
      have h6 := ha.1 k i _ e h hkk he
      omega

/-- A row of entries, entry by entry: its cells, and what is known of each. -/
def EntsSo (w : World) (a : Option Addr) (ds : List (Int × List Int)) (Q : Nat → List Int → Option Addr → Nat → Prop) : Prop :=
  ∀ (i : Nat) (d : Int × List Int), ds[i]? = some d → ∃ (b off : Nat) (a' : Option Addr) (c' : Nat), a = some ⟨b, off, none⟩ ∧ b < w.heap.size ∧ w.cell? ⟨b, off + i * 2, none⟩ = some (.int .i64 d.1) ∧ w.cell? ⟨b, off + i * 2 + 1, none⟩ = some (.slice a' d.2.length c') ∧ Q i d.2 a' c'
theorem ents_so {w : World} {G : TypeId} {a : Option Addr} {n cap : Nat} {ds : List (Int × List Int)} (h : (tWrS G).Rd w [.slice a n cap] ds) : EntsSo w a ds fun _ ys a' c' => tIntS.Rd w [.slice a' ys.length c'] ys := fun i d hd => by
  have hl := (row_length h).1
  have hi := (List.getElem?_eq_some_iff.1 hd).1
  rcases pairs_at rfl h with h0 | ⟨b, off, rfl, hbl, hcs⟩
  · omega
  obtain ⟨u0, u1, hv0, hv1, hrv⟩ := hcs i d hd
  obtain ⟨rfl, hr1⟩ := wr_rd hrv
  obtain ⟨a1, c1, rfl⟩ := row_shape hr1
  exact ⟨b, off, a1, c1, rfl, hbl, hv0, hv1, hr1⟩

end Go.Proofs.YtechckninoilhaaGreat

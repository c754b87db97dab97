/-
  The walks of the specification's draws for the law of sectors: what is drawn is some bytes, some numbers, a place; of which numbers, no more is said than the law needs. Condition: at most 2097152 bytes to draw from.
-/
import Derived.Test.YtbkkjfgjlapadaaWalkCur
namespace Go.Proofs.Ytbkkjfgjlapadaa
open Go.RowKit

theorem Owns.but {k : IntKind} {E : TypeId} {w w' : World} {lo l h' : Nat} {v : Value} {zs : List Int} (h : Owns k E w lo v zs) (hb : But l h' w w') (hd : h' ≤ lo) : Owns k E w' lo v zs := (h.own.but hb (.inr hd)).1
theorem Reads.but {k : IntKind} {w w' : World} {a : Option Addr} {zs : List Int} {g h' : Nat} (h : Reads k w a zs) (hb : But g h' w w') (ha : 0 < zs.length → ∀ x, a = some x → x.block < g) : Reads k w' a zs := by
  by_cases h0 : zs.length = 0
  · exact .inl (List.eq_nil_of_length_eq_zero h0)
  rcases h with h | ⟨b, off, rfl, hlt, hc⟩
  · exact .inl h
  · have hx : b < g := ha (by omega) _ rfl
    refine .inr ⟨b, off, rfl, Nat.lt_of_lt_of_le hlt hb.size, fun i hi => ?_⟩
    rw [World.cell?_of_block (w := w) (hb.block b hlt (.inl hx))]
    exact hc i hi
theorem Cur.lower {w w' : World} {g lb cb B : Nat} {a : Option Addr} (h : Cur w g a lb cb) (hb : Below B w w') (hB : g < B) : Cur w' g a lb cb := by
  obtain ⟨i, x, hi, hg⟩ := h
  exact ⟨i, x, hi, by rw [hb.block g hB]; exact hg⟩
theorem Reads.lower {k : IntKind} {w w' : World} {a : Option Addr} {zs : List Int} {B : Nat} (h : Reads k w a zs) (hb : Below B w w') (ha : 0 < zs.length → ∀ x, a = some x → x.block < B) : Reads k w' a zs := by
  by_cases h0 : zs.length = 0
  · exact .inl (List.eq_nil_of_length_eq_zero h0)
  · exact h.old (ha (by omega)) hb
theorem Reads.ahead {k : IntKind} {w : World} {a : Option Addr} {zs : List Int} {n : Nat} (h : Reads k w a zs) (hn : zs.length = n) : 0 < n → ∀ x, a = some x → x.block < w.heap.size := by
  intro h0 x hx
  rcases h.cases with h1 | ⟨b, off, rfl, hlt, _⟩
  · omega
  · simp at hx
    subst hx
    exact hlt
theorem Owns.someOf {k : IntKind} {E : TypeId} {w : World} {lo : Nat} {v : Value} {zs : List Int} (h : Owns k E w lo v zs) (hn : 0 < zs.length) : ∃ g cap, v = .slice (some ⟨g, 0, none⟩) zs.length cap ∧ lo ≤ g ∧ g < w.heap.size ∧ zs.length ≤ cap ∧ cap ≤ maxLen := by
  rcases h.2 with ⟨_, h0⟩ | ⟨g, cap, cur, hv, hb, hg, hnc, hcm, _⟩
  · omega
  · exact ⟨g, cap, hv, hb, (Array.getElem?_eq_some_iff.1 hg).1, hnc, hcm⟩

/-- The bytes that are drawn from, and the cursor over them. -/
structure Draws (w : World) (g : Nat) (a : Option Addr) (lb cb : Nat) (zs : List Int) : Prop where
  cur : Cur w g a lb cb
  len : zs.length = lb
  reads : Reads .u8 w a zs
  bytes : ∀ n ∈ zs, 0 ≤ n ∧ n ≤ 255
  few : lb ≤ 2097152
  ahead : 0 < lb → ∀ x, a = some x → x.block < g

theorem Draws.lt {w : World} {g lb cb : Nat} {a : Option Addr} {zs : List Int} (h : Draws w g a lb cb zs) : g < w.heap.size := h.cur.lt
theorem Draws.next {w w' : World} {g lb cb : Nat} {a : Option Addr} {zs : List Int} (h : Draws w g a lb cb zs) (hc : Cur w' g a lb cb) (hb : But g (g + 1) w w') : Draws w' g a lb cb zs :=
  ⟨hc, h.len, h.reads.but hb (by rw [h.len]; exact h.ahead), h.bytes, h.few, h.ahead⟩
theorem Draws.lower {w w' : World} {g lb cb B : Nat} {a : Option Addr} {zs : List Int} (h : Draws w g a lb cb zs) (hb : Below B w w') (hB : g < B) : Draws w' g a lb cb zs :=
  ⟨h.cur.lower hb hB, h.len, h.reads.lower hb (by rw [h.len]; exact fun h0 x hx => Nat.lt_trans (h.ahead h0 x hx) hB), h.bytes, h.few, h.ahead⟩
theorem Draws.alloc {w : World} {g lb cb : Nat} {a : Option Addr} {zs : List Int} (h : Draws w g a lb cb zs) (o : Obj) : Draws (w.alloc o) g a lb cb zs := h.lower ((Below.refl _ _).alloc (Nat.le_refl _) o) h.lt

theorem dByte {w : World} {g lb cb : Nat} {a : Option Addr} {zs : List Int} (h : Draws w g a lb cb zs) :
    Calls Try.prog 48 #[.pointer (some ⟨g, 0, none⟩)] w fun e w' => ∃ x : Int, e = .returned (.int .i64 x) ∧ 0 ≤ x ∧ x ≤ 255 ∧ Draws w' g a lb cb zs ∧ But g (g + 1) w w' :=
  (l1Byte_any w g a lb cb zs h.cur h.len h.reads h.bytes h.few h.ahead).mono fun _ _ ⟨x, he, h0, h1, hc, hb⟩ => ⟨x, he, h0, h1, h.next hc hb, hb⟩
theorem dBelow {w : World} {g lb cb : Nat} {a : Option Addr} {zs : List Int} (h : Draws w g a lb cb zs) (n : Int) (hn : 0 ≤ n) (hn' : n ≤ 256) :
    Calls Try.prog 41 #[.pointer (some ⟨g, 0, none⟩), .int .i64 n] w fun e w' => ∃ x : Int, e = .returned (.int .i64 x) ∧ 0 ≤ x ∧ (x < n ∨ x = 0) ∧ Draws w' g a lb cb zs ∧ But g (g + 1) w w' :=
  (l1Below_any w g a lb cb zs n h.cur h.len h.reads h.bytes h.few h.ahead hn hn').mono fun _ _ ⟨x, he, h0, h1, hc, hb⟩ => ⟨x, he, h0, h1, h.next hc hb, hb⟩
theorem dInt {w : World} {g lb cb : Nat} {a : Option Addr} {zs : List Int} (h : Draws w g a lb cb zs) (la : Option Addr) (ll lc : Nat) (ls : List Int) (hl : ls.length = ll) (hlr : Reads .i64 w la ls) (hla : ∀ x, la = some x → g + 1 ≤ x.block) (h1 : 1 ≤ ll) (h2 : ll ≤ 256) :
    Calls Try.prog 42 #[.pointer (some ⟨g, 0, none⟩), .slice la ll lc] w fun e w' => ∃ x : Int, e = .returned (.int .i64 x) ∧ x ∈ ls ∧ Draws w' g a lb cb zs ∧ But g (g + 1) w w' :=
  (l1Int_any w g a lb cb zs la ll lc ls h.cur h.len h.reads h.bytes h.few h.ahead hl hlr hla h1 h2).mono fun _ _ ⟨x, he, h0, hc, hb⟩ => ⟨x, he, h0, h.next hc hb, hb⟩


end Go.Proofs.Ytbkkjfgjlapadaa

/-
  The walks of the specification's draws for the law of sectors: what is drawn is some bytes, some numbers, a place; of which numbers, no more is said than the law needs. Condition: at most 2097152 bytes to draw from.
-/
import Derived.Test.YtmkiljflkndmoaaWalkCur
namespace Go.Proofs.Ytmkiljflkndmoaa
open Go.RowKit

theorem Owns.but {k : IntKind} {E : TypeId} {w w' : World} {lo l h' : Nat} {v : Value} {zs : List Int} (h : Owns k E w lo v zs) (hb : But l h' w w') (hd : h' ≤ lo) : Owns k E w' lo v zs := (h.own.but hb (.inr hd)).1
theorem Reads.but {k : IntKind} {w w' : World} {a : Option Addr} {zs : List Int} {g h' : Nat} (h : Reads k w a zs) (hb : But g h' w w') (ha : 0 < zs.length → ∀ x, a = some x → x.block < g) : Reads k w' a zs := by
  by_cases h0 : zs.length = 0
  · exact .inl (List.eq_nil_of_length_eq_zero h0)
  rcases h with h | ⟨b, off, rfl, hlt, hc⟩
  · exact .inl h
  · have hx : b < g := ha (by omega) _ rfl
    refine .inr ⟨b, off, rfl, Nat.lt_of_lt_of_le hlt hb.size, fun i hi => ?_⟩
    rw [World.cell?_of_block (w := w) (hb.block b hlt (.inl hx))]
    exact hc i hi
theorem Cur.lower {w w' : World} {g lb cb B : Nat} {a : Option Addr} (h : Cur w g a lb cb) (hb : Below B w w') (hB : g < B) : Cur w' g a lb cb := by
  obtain ⟨i, x, hi, hg⟩ := h
  exact ⟨i, x, hi, by rw [hb.block g hB]; exact hg⟩
theorem Reads.lower {k : IntKind} {w w' : World} {a : Option Addr} {zs : List Int} {B : Nat} (h : Reads k w a zs) (hb : Below B w w') (ha : 0 < zs.length → ∀ x, a = some x → x.block < B) : Reads k w' a zs := by
  by_cases h0 : zs.length = 0
  · exact .inl (List.eq_nil_of_length_eq_zero h0)
  · exact h.old (ha (by omega)) hb
theorem Reads.ahead {k : IntKind} {w : World} {a : Option Addr} {zs : List Int} {n : Nat} (h : Reads k w a zs) (hn : zs.length = n) : 0 < n → ∀ x, a = some x → x.block < w.heap.size := by
  intro h0 x hx
  rcases h.cases with h1 | ⟨b, off, rfl, hlt, _⟩
  · omega
  · simp at hx
    subst hx
    exact hlt
theorem Owns.someOf {k : IntKind} {E : TypeId} {w : World} {lo : Nat} {v : Value} {zs : List Int} (h : Owns k E w lo v zs) (hn : 0 < zs.length) : ∃ g cap, v = .slice (some ⟨g, 0, none⟩) zs.length cap ∧ lo ≤ g ∧ g < w.heap.size ∧ zs.length ≤ cap ∧ cap ≤ maxLen := by
  rcases h.2 with ⟨_, h0⟩ | ⟨g, cap, cur, hv, hb, hg, hnc, hcm, _⟩
  · omega
  · exact ⟨g, cap, hv, hb, (Array.getElem?_eq_some_iff.1 hg).1, hnc, hcm⟩

/-- The bytes that are drawn from, and the cursor over them. -/
structure Draws (w : World) (g : Nat) (a : Option Addr) (lb cb : Nat) (zs : List Int) : Prop where
  cur : Cur w g a lb cb
  len : zs.length = lb
  reads : Reads .u8 w a zs
  bytes : ∀ n ∈ zs, 0 ≤ n ∧ n ≤ 255
  few : lb ≤ 2097152
  ahead : 0 < lb → ∀ x, a = some x → x.block < g

theorem Draws.lt {w : World} {g lb cb : Nat} {a : Option Addr} {zs : List Int} (h : Draws w g a lb cb zs) : g < w.heap.size := h.cur.lt
theorem Draws.next {w w' : World} {g lb cb : Nat} {a : Option Addr} {zs : List Int} (h : Draws w g a lb cb zs) (hc : Cur w' g a lb cb) (hb : But g (g + 1) w w') : Draws w' g a lb cb zs :=
  ⟨hc, h.len, h.reads.but hb (by rw [h.len]; exact h.ahead), h.bytes, h.few, h.ahead⟩
theorem Draws.lower {w w' : World} {g lb cb B : Nat} {a : Option Addr} {zs : List Int} (h : Draws w g a lb cb zs) (hb : Below B w w') (hB : g < B) : Draws w' g a lb cb zs :=
  ⟨h.cur.lower hb hB, h.len, h.reads.lower hb (by rw [h.len]; exact fun h0 x hx => Nat.lt_trans (h.ahead h0 x hx) hB), h.bytes, h.few, h.ahead⟩
theorem Draws.alloc {w : World} {g lb cb : Nat} {a : Option Addr} {zs : List Int} (h : Draws w g a lb cb zs) (o : Obj) : Draws (w.alloc o) g a lb cb zs := h.lower ((Below.refl _ _).alloc (Nat.le_refl _) o) h.lt

theorem dByte {w : World} {g lb cb : Nat} {a : Option Addr} {zs : List Int} (h : Draws w g a lb cb zs) :
    Calls Try.prog 81 #[.pointer (some ⟨g, 0, none⟩)] w fun e w' => ∃ x : Int, e = .returned (.int .i64 x) ∧ 0 ≤ x ∧ x ≤ 255 ∧ Draws w' g a lb cb zs ∧ But g (g + 1) w w' :=
  (l1Byte_any w g a lb cb zs h.cur h.len h.reads h.bytes h.few h.ahead).mono fun _ _ ⟨x, he, h0, h1, hc, hb⟩ => ⟨x, he, h0, h1, h.next hc hb, hb⟩
theorem dBelow {w : World} {g lb cb : Nat} {a : Option Addr} {zs : List Int} (h : Draws w g a lb cb zs) (n : Int) (hn : 0 ≤ n) (hn' : n ≤ 256) :
    Calls Try.prog 51 #[.pointer (some ⟨g, 0, none⟩), .int .i64 n] w fun e w' => ∃ x : Int, e = .returned (.int .i64 x) ∧ 0 ≤ x ∧ (x < n ∨ x = 0) ∧ Draws w' g a lb cb zs ∧ But g (g + 1) w w' :=
  (l1Below_any w g a lb cb zs n h.cur h.len h.reads h.bytes h.few h.ahead hn hn').mono fun _ _ ⟨x, he, h0, h1, hc, hb⟩ => ⟨x, he, h0, h1, h.next hc hb, hb⟩
theorem dInt {w : World} {g lb cb : Nat} {a : Option Addr} {zs : List Int} (h : Draws w g a lb cb zs) (la : Option Addr) (ll lc : Nat) (ls : List Int) (hl : ls.length = ll) (hlr : Reads .i64 w la ls) (hla : ∀ x, la = some x → g + 1 ≤ x.block) (h1 : 1 ≤ ll) (h2 : ll ≤ 256) :
    Calls Try.prog 57 #[.pointer (some ⟨g, 0, none⟩), .slice la ll lc] w fun e w' => ∃ x : Int, e = .returned (.int .i64 x) ∧ x ∈ ls ∧ Draws w' g a lb cb zs ∧ But g (g + 1) w w' :=
  (l1Int_any w g a lb cb zs la ll lc ls h.cur h.len h.reads h.bytes h.few h.ahead hl hlr hla h1 h2).mono fun _ _ ⟨x, he, h0, hc, hb⟩ => ⟨x, he, h0, h.next hc hb, hb⟩

set_option maxHeartbeats 1600000 in
theorem l1Bytes_any {w : World} {g lb cb : Nat} {a : Option Addr} {zs : List Int} (h : Draws w g a lb cb zs) (n : Nat) (hn : n ≤ 256) :
    Calls Try.prog 50 #[.pointer (some ⟨g, 0, none⟩), .int .i64 n] w fun e w' => ∃ (v : Value) (bs : List Int), e = .returned v ∧ (∃ ad cap, v = .slice (some ad) n cap) ∧ bs.length = n ∧ (∀ x ∈ bs, 0 ≤ x ∧ x ≤ 255) ∧ Owns .u8 5 w' w.heap.size v bs ∧ Draws w' g a lb cb zs ∧ But g (g + 1) w w' := by
  obtain ⟨i0, hi, hz0, hz1, hz2⟩ := info_parts Try.info5
  have hown0 : Owns .u8 5 (w.alloc (.cells #[] 5)) w.heap.size (.slice (some ⟨w.heap.size, 0, none⟩) 0 0) [] := Owns.lit .u8 5 w [] 0 #[] rfl rfl (by unfold maxLen; omega)
  have hg := h.lt
  go_enter Try.func50, Try.ntmps50
  go_wp2
  go_loopw [5, 6] (fun o i wr => ∃ (j : Nat) (bs : List Int), j ≤ n ∧ i = .int .i64 j ∧ bs.length = j ∧ (∀ x ∈ bs, 0 ≤ x ∧ x ≤ 255) ∧ Owns .u8 5 wr w.heap.size o bs ∧ Draws wr g a lb cb zs ∧ But g (g + 1) w wr ∧ (∃ ad cap, o = .slice (some ad) j cap)) (fun _ i _ => n - (intOf i).toNat)
  case atStart => exact ⟨0, [], Nat.zero_le _, rfl, rfl, by simp, hown0, h.alloc _, (But.refl _ _ _).alloc _, ⟨_, _, rfl⟩⟩
  case round =>
    clear hown0
    obtain ⟨j, bs, hj, rfl, hl, hbs, ho, hd, hb, ad, cap, rfl⟩ := hrel
    by_cases hlt : j < n
    · go_wp2_with fail
      refine (dByte hd).mono ?_
      rintro e w1 ⟨x, rfl, hx0, hx1, hd1, hb1⟩
      have ho1 := ho.but hb1 (by omega)
      have hB1 := hb.trans hb1
      have hsz := hB1.size
      clear hb1 ho hd hb
      go_wp2_with (at_builtin; refine wpList_app .u8 (by rfl) _ _ 22 (by rfl) w.heap.size 5 i0 _ 1 Try.underlying22 hi hz0 hz1 hz2 rfl _ bs (by rfl) (ho1.alloc _) ⟨w1.heap.size, 0, none⟩ 1 1 [x] (by rfl) rfl (Reads.new _ _ _ _ _ rfl) ?h1 ?h2 ?h3 ?_)
      case h1 => unfold maxLen; omega
      case h2 => omega
      case h3 => simp; omega
      intro v' w2 ho2 hb2
      obtain ⟨g2, c2, hv, _⟩ := ho2.someOf (by simp)
      have hl2 : (bs ++ [x]).length = j + 1 := by simp [hl]
      rw [hl2] at hv
      have hbs2 : ∀ y ∈ bs ++ [x], 0 ≤ y ∧ y ≤ 255 := by
        intro y hy
        rcases List.mem_append.1 hy with hy | hy
        · exact hbs y hy
        · simp at hy; omega
      have hd2 := (hd1.alloc (.cells #[.int .u8 x] 5)).lower hb2 hg
      have hB2 := (hB1.alloc (.cells #[.int .u8 x] 5)).thenBelow hb2
      subst hv
      clear hb2 ho1 hd1 hB1 hbs
      go_wp2
      go_roundw
      case rel => exact ⟨j + 1, bs ++ [x], by omega, by go_num, hl2, hbs2, ho2, hd2, hB2, ⟨_, _, rfl⟩⟩
      case measure => simp [intOf]; omega
    · go_wp2
      go_ret
      have e : j = n := by omega
      subst e
      exact ⟨_, bs, rfl, ⟨_, _, rfl⟩, hl, hbs, ho, hd, hb⟩

end Go.Proofs.Ytmkiljflkndmoaa

/-
  What the program's deeds do to blocks that are its own: the run of a command's blocks, and each kind. Conditions: the command is right for these blocks, which lie in one row.
-/
import Derived.Test.YtgjomldcnjjpaaaDone14
import Derived.Test.YtgjomldcnjjpaaaWalkCmdI
import Derived.Test.YtgjomldcnjjpaaaWalkCopyWords
import Derived.Laws.IdiomCopy
import Derived.Lib.SliceRun
namespace Go.Proofs.Ytgjomldcnjjpaaa
open Go.RowKit

theorem over_cons {ls : List Int} {b : Nat} {x : Int} {zs : List Int} (h : b < ls.length) : over (ls.set b x) (b + 1) zs = over ls b (x :: zs) := by
  have e1 : (ls.set b x).take (b + 1) = ls.take b ++ [x] := by
    rw [List.take_add_one, List.getElem?_set_self (by omega)]
    congr 1
    apply List.ext_getElem?
    intro m
    rw [List.getElem?_take, List.getElem?_take]
    by_cases hm : m < b
    · rw [if_pos hm, if_pos hm, List.getElem?_set_ne (by omega)]
    · rw [if_neg hm, if_neg hm]
  have e2 : (ls.set b x).drop (b + 1 + zs.length) = ls.drop (b + (zs.length + 1)) := by
    apply List.ext_getElem?
    intro m
    rw [List.getElem?_drop, List.getElem?_drop, List.getElem?_set_ne (by omega)]
    congr 1
    omega
  unfold over
  rw [e1, e2, List.append_assoc]
  rfl
/-- Several stores into the row, one behind the other. -/
theorem Own.puts {E : TypeId} {lo hi g n cap : Nat} : ∀ (zs : List Int) (i : Nat) (w : World) (ls : List Int), Own .i64 E w lo hi (.slice (some ⟨g, 0, none⟩) n cap) ls → i + zs.length ≤ n → Own .i64 E (w.setCells g i (zs.map (Value.int .i64))) lo hi (.slice (some ⟨g, 0, none⟩) n cap) (over ls i zs) ∧ But lo hi w (w.setCells g i (zs.map (Value.int .i64)))
  | [], i, w, ls, h, _ => by rw [over_nil]; exact ⟨h, But.refl _ _ _⟩
  | x :: zs, i, w, ls, h, hl => by
    have hl' : i + (zs.length + 1) ≤ n := hl
    have hn := h.length
    obtain ⟨_, _, h1, h2⟩ := h.store i (by omega) x
    obtain ⟨h3, h4⟩ := Own.puts zs (i + 1) _ _ h1 (by omega)
    rw [over_cons (by omega)] at h3
    exact ⟨h3, h2.trans h4⟩
theorem zeros_map (n : Nat) : (List.replicate n (0 : Int)).map (Value.int .i64) = List.replicate n (.int .i64 0) := by rw [List.map_replicate]

/-- A command that is right for these blocks, one by one: its place and how many. -/
theorem roomL_any (w : World) (L : Nat) (o d b k : Int) (a : Option Addr) (n cap : Nat) (zs : List Int) (hz : zs.length = n) (hr : Reads .i64 w a zs) (hn : n ≤ 2097152) (hL : lenC o k zs = L) :
    Calls Try.prog 66 #[.agg #[.int .i64 o, .int .i64 d, .int .i64 b, .int .i64 k, .slice a n cap]] w fun e w' => e = .returned (.int .i64 L) ∧ Below w.heap.size w w' := by
  refine (roomOf_any w o d b k a n cap zs hz hr hn).mono ?_
  rintro e w1 ⟨rfl, h⟩
  exact ⟨ret_int hL, h⟩
set_option maxHeartbeats 1600000 in
theorem run14_any (w : World) (B L g nl cl : Nat) (o d k : Int) (a : Option Addr) (n cap : Nat) (zs : List Int) (hz : zs.length = n) (hr : Reads .i64 w a zs) (hn : n ≤ 2097152) (hL : lenC o k zs = L) (h0 : 1 ≤ L) (h1 : B + L ≤ nl) (h2 : nl ≤ cl) (h4 : cl ≤ 9223372036854775807) :
    Calls Try.prog 83 #[.slice (some ⟨g, 0, none⟩) nl cl, .agg #[.int .i64 o, .int .i64 d, .int .i64 (B : Int), .int .i64 k, .slice a n cap]] w fun e w' => e = .returned (.slice (some ⟨g, B, none⟩) L (cl - B)) ∧ Below w.heap.size w w' := by
  have hA := new_below w (.cells #[.int .i64 o, .int .i64 d, .int .i64 (B : Int), .int .i64 k, .slice a n cap] 37)
  have X := Box.new w 37 #[.int .i64 o, .int .i64 d, .int .i64 (B : Int), .int .i64 k, .slice a n cap]
  have hr' := hr.below hA
  have zx := X.lt
  obtain ⟨c0, c1, c2, c3, c4⟩ := X.cells5
  have hwr : IntKind.i64.wrap ((B : Int) + (L : Int)) = (B : Int) + (L : Int) := IntWalk.i64_in _ (by omega)
  have s0 : (0 : Int) ≤ (B : Int) := by omega
  have s1 : (B : Int) ≤ (B : Int) + (L : Int) := by omega
  have s2 : (B : Int) + (L : Int) ≤ (cl : Int) := by omega
  have s3 : ((B : Int) + (L : Int)).toNat - B = L := by omega
  have s4 : ¬ cl = B := by omega
  go_enter Try.func83, Try.ntmps83
  go_wp2_with fail
  generalize w.alloc (.cells #[.int .i64 o, .int .i64 d, .int .i64 (B : Int), .int .i64 k, .slice a n cap] 37) = W at hA X hr' zx c0 c1 c2 c3 c4 ⊢
  go_region_held3 (fun w' => w'.cell? ⟨w.heap.size, 0, none⟩ = some (.int .i64 o) ∧ w'.cell? ⟨w.heap.size, 1, none⟩ = some (.int .i64 d) ∧ w'.cell? ⟨w.heap.size, 2, none⟩ = some (.int .i64 (B : Int)) ∧ w'.cell? ⟨w.heap.size, 3, none⟩ = some (.int .i64 k) ∧ w'.cell? ⟨w.heap.size, 4, none⟩ = some (.slice a n cap))
    (first | (exact ⟨(q1.cell (p := ⟨w.heap.size, 0, none⟩) zx).trans c0, (q1.cell (p := ⟨w.heap.size, 1, none⟩) zx).trans c1, (q1.cell (p := ⟨w.heap.size, 2, none⟩) zx).trans c2, (q1.cell (p := ⟨w.heap.size, 3, none⟩) zx).trans c3, (q1.cell (p := ⟨w.heap.size, 4, none⟩) zx).trans c4⟩) | (exact ⟨c0, c1, c2, c3, c4⟩) | go_keep)
    (first | (go_at_call 66; refine (roomL_any _ L o d B k _ _ _ zs hz (by exact hr'.draw) hn hL).mono ?_; rintro e w1 ⟨rfl, p1⟩; have q1 : Below W.heap.size W w1 := (Below.refl W.heap.size W).drew.trans p1))
  go_wp2
  go_ret
  exact ⟨rfl, Below.andThen hA q1⟩


/-- A part of a row. -/
theorem Reads.part {kd : IntKind} {w : World} {g B L : Nat} {ls : List Int} (h : Reads kd w (some ⟨g, 0, none⟩) ls) (h1 : B + L ≤ ls.length) : Reads kd w (some ⟨g, B, none⟩) ((ls.drop B).take L) := by
  rcases h with rfl | ⟨b, off, ha, hlt, hc⟩
  · left
    simp at h1
    simp [h1]
  · simp at ha
    obtain ⟨rfl, rfl⟩ := ha
    refine .inr ⟨g, B, rfl, hlt, fun i hi => ?_⟩
    simp at hi
    have := hc (B + i) (by omega)
    rw [Nat.zero_add] at this
    rw [this]
    simp only [List.getD_eq_getElem?_getD, List.getElem?_take, List.getElem?_drop]
    rw [if_pos (by omega)]
theorem part_len {ls : List Int} {B L : Nat} (h : B + L ≤ ls.length) : ((ls.drop B).take L).length = L := by simp; omega
/-- The blocks, in a row of their own, the block g. -/
abbrev OwnL (w : World) (g nl cl : Nat) (ls : List Int) : Prop := Go.Proofs.Ytgjomldcnjjpaaa.Own .i64 3 w g (g + 1) (.slice (some ⟨g, 0, none⟩) nl cl) ls
theorem ownl_cap {w : World} {g nl cl : Nat} {ls : List Int} (h : OwnL w g nl cl ls) : nl ≤ cl ∧ cl ≤ 9223372036854775807 ∧ g < w.heap.size := by
  rcases h.1.2 with ⟨hv, hn⟩ | ⟨g', cap, cur, hv, hb, hg, hnc, hcm, hcs, ht⟩
  · simp at hv
  · have hl := h.length
    simp at hv
    obtain ⟨rfl, _, rfl⟩ := hv
    unfold maxLen at hcm
    exact ⟨by omega, hcm, (Array.getElem?_eq_some_iff.1 hg).1⟩
theorem ownl_part {w : World} {g nl cl B L : Nat} {ls : List Int} (h : OwnL w g nl cl ls) (h1 : B + L ≤ nl) : tIntS.Rd w [.slice (some ⟨g, B, none⟩) L (cl - B)] ((ls.drop B).take L) := by
  obtain ⟨h2, h3, _⟩ := ownl_cap h
  have hl := h.length
  have := ints_rd_of (E := 3) (cap := cl - B) (h.reads.part (by omega : B + L ≤ ls.length)) (by rw [part_len (by omega)]; omega) (by omega) (by simp)
  rw [part_len (by omega)] at this
  exact this

set_option maxHeartbeats 1600000 in
theorem read14_any (w : World) (B L g nl cl : Nat) (ls : List Int) (hm : OwnL w g nl cl ls) (o d k : Int) (a : Option Addr) (n cap : Nat) (zs : List Int) (hz : zs.length = n) (hr : Reads .i64 w a zs) (hn : n ≤ 2097152) (hL : lenC o k zs = L) (h0 : 1 ≤ L) (h1 : B + L ≤ nl) (h3 : nl ≤ 2097152) :
    Calls Try.prog 74 #[.slice (some ⟨g, 0, none⟩) nl cl, .agg #[.int .i64 o, .int .i64 d, .int .i64 (B : Int), .int .i64 k, .slice a n cap]] w fun e w' => ∃ a' c', e = .returned (.tuple #[.slice a' L c', .int .i64 0]) ∧ tIntS.Own w' w.heap.size w'.heap.size [.slice a' L c'] ((ls.drop B).take L) ∧ Below w.heap.size w w' := by
  have hA := new_below w (.cells #[.int .i64 o, .int .i64 d, .int .i64 (B : Int), .int .i64 k, .slice a n cap] 37)
  have X := Box.new w 37 #[.int .i64 o, .int .i64 d, .int .i64 (B : Int), .int .i64 k, .slice a n cap]
  have hr' := hr.below hA
  have hm' := hm.below hA
  have zx := X.lt
  obtain ⟨c2, c3, zg⟩ := ownl_cap hm
  obtain ⟨k0, k1, k2, k3, k4⟩ := X.cells5
  go_enter Try.func74, Try.ntmps74
  go_wp2_with fail
  generalize w.alloc (.cells #[.int .i64 o, .int .i64 d, .int .i64 (B : Int), .int .i64 k, .slice a n cap] 37) = W at hA X hr' hm' zx k0 k1 k2 k3 k4 ⊢
  refine (run14_any _ B L g nl cl o d k _ _ _ zs hz hr' hn hL h0 h1 c2 c3).mono ?_
  rintro e w1 ⟨rfl, b1⟩
  have HR := hidden (ownl_part (hm'.below b1) h1)
  go_wp2_with fail
  refine (copyWords_any _ _ _ _ _ HR.out (by omega)).mono ?_
  rintro e w2 ⟨a2, c2', rfl, o2, b2⟩
  have s1 := hA.size
  have s2 := b1.size
  go_wp2
  refine bodyPost_ret (v := .tuple #[.slice a2 L c2', .int .i64 0]) (by simp [results, Try.results74, go_sem]) rfl ?_
  exact ⟨_, _, rfl, o2.widen (by omega) (Nat.le_refl _), Below.andThen (Below.andThen hA b1) b2⟩

theorem flush14_any (w : World) (m : Value) (cs : Array Value) :
    Calls Try.prog 76 #[m, .agg cs] w fun e w' => e = .returned (.tuple #[.slice none 0 0, .int .i64 0]) ∧ Below w.heap.size w w' := by
  go_enter Try.func76, Try.ntmps76
  go_wp2
  refine bodyPost_ret (v := .tuple #[.slice none 0 0, .int .i64 0]) (by simp [results, Try.results76, go_sem]) rfl ?_
  exact ⟨rfl, new_below _ _⟩

theorem Try.zero3 : ∀ w : World, (zeroValue 3).run Try.prog w = .ok (.int .i64 0) w := by
  intro w
  rfl
set_option maxHeartbeats 1600000 in
theorem zero14_any (w : World) (B L g nl cl : Nat) (ls : List Int) (hm : OwnL w g nl cl ls) (o d k : Int) (a : Option Addr) (n cap : Nat) (zs : List Int) (hz : zs.length = n) (hr : Reads .i64 w a zs) (hn : n ≤ 2097152) (hL : lenC o k zs = L) (h0 : 1 ≤ L) (h1 : B + L ≤ nl) :
    Calls Try.prog 78 #[.slice (some ⟨g, 0, none⟩) nl cl, .agg #[.int .i64 o, .int .i64 d, .int .i64 (B : Int), .int .i64 k, .slice a n cap]] w fun e w' => e = .returned (.tuple #[.slice none 0 0, .int .i64 0]) ∧ OwnL w' g nl cl (over ls B (List.replicate L 0)) ∧ But g (g + 1) w w' := by
  have hA := new_below w (.cells #[.int .i64 o, .int .i64 d, .int .i64 (B : Int), .int .i64 k, .slice a n cap] 37)
  have X := Box.new w 37 #[.int .i64 o, .int .i64 d, .int .i64 (B : Int), .int .i64 k, .slice a n cap]
  have hr' := hr.below hA
  have hm' := hm.below hA
  have zx := X.lt
  obtain ⟨c2, c3, zg⟩ := ownl_cap hm
  obtain ⟨k0, k1, k2, k3, k4⟩ := X.cells5
  go_enter Try.func78, Try.ntmps78
  go_wp2_with fail
  generalize w.alloc (.cells #[.int .i64 o, .int .i64 d, .int .i64 (B : Int), .int .i64 k, .slice a n cap] 37) = W at hA X hr' hm' zx k0 k1 k2 k3 k4 ⊢
  refine (run14_any _ B L g nl cl o d k _ _ _ zs hz hr' hn hL h0 h1 c2 c3).mono ?_
  rintro e w1 ⟨rfl, b1⟩
  have hm1 := hm'.below b1
  have hclr : ∀ ty, (Builtin.clear_ #[72] ty #[.slice (some ⟨g, B, none⟩) L (cl - B)]).run Try.prog w1 = .ok (.tuple #[]) (w1.setCells g B (List.replicate L (.int .i64 0))) := fun ty =>
    Go.Lib.run_clear_slice w1 72 3 ty (.int .i64 0) Try.underlying72 Try.zero3 rfl rfl g B L (cl - B) (by omega) (fun m hm => by rw [(hm1.store (B + m) (by omega) 0).1]; rfl) (fun m hm => (hm1.store (B + m) (by omega) 0).2.1)
  have hp := Own.puts (List.replicate L 0) B w1 ls hm1 (by simp; omega)
  rw [zeros_map] at hp
  have HP := hidden hp
  have HB := hidden ((But.of_below (lo := g) (hi := g + 1) (Below.andThen hA b1)).trans hp.2)
  clear hp hm1
  go_wp2
  refine bodyPost_ret (v := .tuple #[.slice none 0 0, .int .i64 0]) (by simp [results, Try.results78, go_sem]) rfl ?_
  exact ⟨rfl, HP.out.1, HB.out⟩

theorem copy14_run {w : World} {g nl cl B L bz oz : Nat} {ls zs : List Int} (hm : OwnL w g nl cl ls) (r : Reads .i64 w (some ⟨bz, oz, none⟩) zs) (hz : zs.length = L) (h1 : B + L ≤ nl) (cap : Nat) (ty : TypeId) :
    (Builtin.copy_ #[72, 26] ty #[.slice (some ⟨g, B, none⟩) L (cl - B), .slice (some ⟨bz, oz, none⟩) L cap]).run Try.prog w = .ok (goInt L) (w.setCells g B (zs.map (Value.int .i64))) := by
  have hl : (zs.map (Value.int .i64)).length = L := by simpa using hz
  have := run_copy_cells (P := Try.prog) w 72 26 ty 3 g B L (cl - B) ⟨bz, oz, none⟩ L cap (zs.map (Value.int .i64)) Try.underlying72 (by kernel_rfl) (by rw [hl]; exact (Nat.min_self L).symm) r.cells
    (fun m hm' => by
      rw [(hm.store (B + m) (by omega) 0).1]
      rfl)
    (fun m hm' => (hm.store (B + m) (by omega) 0).2.1) (ints_plain zs)
  rw [hl] at this
  exact this
set_option maxHeartbeats 1600000 in
theorem write14_any (w : World) (B L g nl cl : Nat) (ls : List Int) (hm : OwnL w g nl cl ls) (o d k : Int) (a : Option Addr) (n cap : Nat) (zs : List Int) (hz : zs.length = n) (hr : Reads .i64 w a zs) (hn : n ≤ 2097152) (hL : lenC o k zs = L) (h0 : 1 ≤ L) (h1 : B + L ≤ nl) (hg : ∀ x, a = some x → x.block ≠ g) (hzL : zs.length = L) :
    Calls Try.prog 75 #[.slice (some ⟨g, 0, none⟩) nl cl, .agg #[.int .i64 o, .int .i64 d, .int .i64 (B : Int), .int .i64 k, .slice a n cap]] w fun e w' => e = .returned (.tuple #[.slice none 0 0, .int .i64 0]) ∧ OwnL w' g nl cl (over ls B zs) ∧ But g (g + 1) w w' := by
  have hA := new_below w (.cells #[.int .i64 o, .int .i64 d, .int .i64 (B : Int), .int .i64 k, .slice a n cap] 37)
  have X := Box.new w 37 #[.int .i64 o, .int .i64 d, .int .i64 (B : Int), .int .i64 k, .slice a n cap]
  have hr' := hr.below hA
  have hm' := hm.below hA
  have zx := X.lt
  obtain ⟨c2, c3, zg⟩ := ownl_cap hm
  obtain ⟨k0, k1, k2, k3, k4⟩ := X.cells5
  rcases hr.cases with h' | ⟨bz, oz, rfl, hbz, _⟩
  · omega
  have hgz : bz ≠ g := hg _ rfl
  obtain rfl : n = L := by omega
  go_enter Try.func75, Try.ntmps75
  go_wp2_with fail
  generalize w.alloc (.cells #[.int .i64 o, .int .i64 d, .int .i64 (B : Int), .int .i64 k, .slice (some ⟨bz, oz, none⟩) n cap] 37) = W at hA X hr' hm' zx k0 k1 k2 k3 k4 ⊢
  go_region_held3 (fun w' => w'.cell? ⟨w.heap.size, 0, none⟩ = some (.int .i64 o) ∧ w'.cell? ⟨w.heap.size, 1, none⟩ = some (.int .i64 d) ∧ w'.cell? ⟨w.heap.size, 2, none⟩ = some (.int .i64 (B : Int)) ∧ w'.cell? ⟨w.heap.size, 3, none⟩ = some (.int .i64 k) ∧ w'.cell? ⟨w.heap.size, 4, none⟩ = some (.slice (some ⟨bz, oz, none⟩) n cap))
    (first | (exact ⟨(q1.cell (p := ⟨w.heap.size, 0, none⟩) zx).trans k0, (q1.cell (p := ⟨w.heap.size, 1, none⟩) zx).trans k1, (q1.cell (p := ⟨w.heap.size, 2, none⟩) zx).trans k2, (q1.cell (p := ⟨w.heap.size, 3, none⟩) zx).trans k3, (q1.cell (p := ⟨w.heap.size, 4, none⟩) zx).trans k4⟩) | (exact ⟨k0, k1, k2, k3, k4⟩) | (exact ⟨y0, y1, y2, y3, y4⟩) | go_keep)
    (first | (go_at_call 83; refine (run14_any _ B n g nl cl o d k _ _ _ zs hz (by exact hr'.draw) hn hL h0 h1 c2 c3).mono ?_; rintro e w1 ⟨rfl, p1⟩; have q1 : Below W.heap.size W w1 := (Below.refl W.heap.size W).drew.trans p1; have r1 := hr'.below q1; have hm1 := hm'.below q1; have hcp := copy14_run (B := B) hm1 r1 hzL h1 cap; have HP := hidden (Own.puts zs B w1 ls hm1 (by omega)); have xb := X.below q1 zx; obtain ⟨y0, y1, y2, y3, y4⟩ := (xb.kept (HP.out.2.block _ xb.lt (.inr zg))).cells5))
  go_wp2
  refine bodyPost_ret (v := .tuple #[.slice none 0 0, .int .i64 0]) (by simp [results, Try.results75, go_sem]) rfl ?_
  exact ⟨rfl, HP.out.1, (But.of_below (Below.andThen hA q1)).trans HP.out.2⟩

set_option maxHeartbeats 1600000 in
theorem compare14_any (w : World) (B g nl cl : Nat) (ls : List Int) (hm : OwnL w g nl cl ls) (o d k : Int) (a : Option Addr) (n cap : Nat) (zs : List Int) (hz : zs.length = n) (hr : Reads .i64 w a zs) (hn : n = 2) (h1 : B < nl) :
    Calls Try.prog 77 #[.slice (some ⟨g, 0, none⟩) nl cl, .agg #[.int .i64 o, .int .i64 d, .int .i64 (B : Int), .int .i64 k, .slice a n cap]] w fun e w' => ∃ c' ls', e = .returned (.tuple #[.slice none 0 0, .int .i64 c']) ∧ deedC ls 5 B k zs = (ls', c', []) ∧ OwnL w' g nl cl ls' ∧ But g (g + 1) w w' := by
  have hA := new_below w (.cells #[.int .i64 o, .int .i64 d, .int .i64 (B : Int), .int .i64 k, .slice a n cap] 37)
  have X := Box.new w 37 #[.int .i64 o, .int .i64 d, .int .i64 (B : Int), .int .i64 k, .slice a n cap]
  have hr' := hr.below hA
  have hm' := hm.below hA
  have zx := X.lt
  obtain ⟨c2, c3, zg⟩ := ownl_cap hm
  subst hn
  obtain ⟨z0, z1, rfl⟩ : ∃ z0 z1, zs = [z0, z1] := by
    match zs, hz with
    | [z0, z1], _ => exact ⟨z0, z1, rfl⟩
  rcases hr'.cases with h' | ⟨bz, oz, rfl, hbz, hc⟩
  · simp at h'
  have i0 := hc 0 (by simp)
  have i1 := hc 1 (by simp)
  simp only [List.getD_cons_zero, List.getD_cons_succ, Nat.add_zero] at i0 i1
  obtain ⟨k0, k1, k2, k3, k4⟩ := X.cells5
  obtain ⟨m0, m1, HS, HB⟩ := hm'.store B h1 z1
  have e1 : ((B : Int)).toNat = B := by omega
  have HH := hidden (deed_hit (ls := ls) (b := (B : Int)) (k := k) (zs := [z0, z1]))
  have HM := hidden (deed_miss (ls := ls) (b := (B : Int)) (k := k) (zs := [z0, z1]))
  rw [e1] at HH HM
  generalize ls.getD B 0 = y at m0 HH HM
  have HS' := hidden HS
  have HB' := hidden ((But.of_below (lo := g) (hi := g + 1) hA).trans HB)
  have HL := hidden hm'
  have s0 : (0 : Int) ≤ (B : Int) := by omega
  have s1 : (B : Int) < (nl : Int) := by omega
  clear HS HB hm hm' hc hr hr'
  by_cases hy : y = z0
  · have hyb : (y != z0) = false := by simp [hy]
    have HE := hidden hy
    clear hy
    go_enter Try.func77, Try.ntmps77
    go_wp2_with fail
    go_quiet (fail)
    go_wp2
    refine bodyPost_ret (v := .tuple #[.slice none 0 0, .int .i64 0]) (by simp [results, Try.results77, go_sem]) rfl ?_
    exact ⟨_, _, rfl, HH.out HE.out, HS'.out, HB'.out.os, HB'.out.tape, HB'.out.output, HB'.out.size, HB'.out.block⟩
  · have hyb : (y != z0) = true := by simp [hy]
    have HE := hidden hy
    clear hy
    go_enter Try.func77, Try.ntmps77
    go_wp2_with fail
    go_quiet (fail)
    go_wp2
    refine bodyPost_ret (v := .tuple #[.slice none 0 0, .int .i64 4]) (by simp [results, Try.results77, go_sem]) rfl ?_
    exact ⟨_, _, rfl, HM.out HE.out, HL.out, (But.of_below hA).drewN nq⟩

/-- A function of the program's own. -/
theorem enters14 {F : FuncId} {fn : Func} (hf : Try.prog.funcs[F]? = some fn) (hn : (fn.name == "runtime.NumGoroutine") = false) (hb : fn.body.isNone = false) (args : Array Value) (w : World) : Sem.run Try.prog (callFunc F args) w = .ok (.enter F args) w := by
  have hb' : ¬ fn.body = none := fun h => by rw [h] at hb; cases hb
  have hn' : ¬ fn.name = "runtime.NumGoroutine" := by simpa using hn
  simp [go_sem, callFunc, hf, hn', hb']
/-- The deed of a kind. -/
def deedF (o : Int) : FuncId := if o = 1 then 74 else if o = 2 ∨ o = 3 then 75 else if o = 4 then 76 else if o = 5 then 77 else 78
theorem deedF_enters (o : Int) (args : Array Value) (w : World) : Sem.run Try.prog (callFunc (deedF o) args) w = .ok (.enter (deedF o) args) w := by
  unfold deedF
  split
  · exact enters14 Try.func74 (by kernel_rfl) (by kernel_rfl) _ _
  · split
    · exact enters14 Try.func75 (by kernel_rfl) (by kernel_rfl) _ _
    · split
      · exact enters14 Try.func76 (by kernel_rfl) (by kernel_rfl) _ _
      · split
        · exact enters14 Try.func77 (by kernel_rfl) (by kernel_rfl) _ _
        · exact enters14 Try.func78 (by kernel_rfl) (by kernel_rfl) _ _
theorem deedOf_any (w : World) (o : Int) (h1 : 1 ≤ o) (h6 : o ≤ 6) :
    Calls Try.prog 64 #[.int .i64 o] w fun e w' => e = .returned (.func (Fn.func (deedF o)) #[] #[]) ∧ Below w.heap.size w w' := by
  have hx : o = 1 ∨ o = 2 ∨ o = 3 ∨ o = 4 ∨ o = 5 ∨ o = 6 := by omega
  have hs : ∀ (w : World) (p : Addr) (F : FuncId), (w.cell? p).isSome = true → w.frozen? p = false → Sem.run Try.prog (store p (.func (Fn.func F) #[] #[])) w = .ok () (w.setCell p (.func (Fn.func F) #[] #[])) := by
    intro w p F h1 h2
    have := run_store Try.prog w p (.func (Fn.func F) #[] #[]) .plain rfl
    rw [this]
    cases hc : w.cell? p with
    | none => rw [hc] at h1; cases h1
    | some v => simp [h2]
  have hs0 : ∀ (w : World) (p : Addr), (w.cell? p).isSome = true → w.frozen? p = false → Sem.run Try.prog (store p .nilFunc) w = .ok () (w.setCell p .nilFunc) := by
    intro w p h1 h2
    have := run_store Try.prog w p .nilFunc .plain rfl
    rw [this]
    cases hc : w.cell? p with
    | none => rw [hc] at h1; cases h1
    | some v => simp [h2]
  rcases hx with rfl | rfl | rfl | rfl | rfl | rfl
  all_goals
    go_enter Try.func64, Try.ntmps64
    go_wp2
    go_ret
    exact ⟨rfl, new_below _ _⟩

/-- What a deed makes of the blocks, and what it answers. -/
def Deeds (w : World) (g nl cl : Nat) (x : List Int × Int × List Int) (e : Ending) (w' : World) : Prop :=
  ∃ a' m' c', e = .returned (.tuple #[.slice a' m' c', .int .i64 x.2.1]) ∧ tIntS.Own w' w.heap.size w'.heap.size [.slice a' m' c'] x.2.2 ∧ OwnL w' g nl cl x.1 ∧ But g (g + 1) w w'
set_option maxHeartbeats 1600000 in
theorem deed_any (w : World) (gn gs : Int) (g nl cl : Nat) (ls : List Int) (hm : OwnL w g nl cl ls) (o d b k : Int) (a : Option Addr) (n cap : Nat) (zs : List Int) (hz : zs.length = n) (hr : Reads .i64 w a zs) (hn : n ≤ 2097152) (hg : 0 < n → ∀ x, a = some x → x.block ≠ g) (hd : denyC gn gs ls o d b k zs = 0) :
    Calls Try.prog (deedF o) #[.slice (some ⟨g, 0, none⟩) nl cl, .agg #[.int .i64 o, .int .i64 d, .int .i64 b, .int .i64 k, .slice a n cap]] w (Deeds w g nl cl (deedC ls o b k zs)) := by
  obtain ⟨hl, hc⟩ := deny_not hd
  have hll := hm.length
  have ho := code_op hc
  have hbr := blocksN_range gn gs
  obtain ⟨c2, c3, zg⟩ := ownl_cap hm
  by_cases h4 : o = 4
  · subst h4
    rw [deed_flush]
    refine (flush14_any w _ _).mono ?_
    rintro e w1 ⟨rfl, hb⟩
    exact ⟨_, _, _, rfl, nil_own _ _ _, hm.below hb, But.of_below hb⟩
  · obtain ⟨r0, r1, r2, r3⟩ := code_room hc h4
    obtain ⟨B, rfl⟩ : ∃ B : Nat, b = B := ⟨b.toNat, by omega⟩
    obtain ⟨L, hL⟩ : ∃ L : Nat, lenC o k zs = L := ⟨(lenC o k zs).toNat, by omega⟩
    have e1 : ((B : Int)).toNat = B := by omega
    by_cases o1 : o = 1
    · subst o1
      have hk := hL
      rw [len1 (.inl rfl)] at hk
      subst hk
      rw [deed_read, e1, show deedF 1 = 74 by rfl]
      have z1 : 1 ≤ L := by omega
      have z2 : B + L ≤ nl := by omega
      have z3 : nl ≤ 2097152 := by omega
      have h := read14_any w B L g nl cl ls hm 1 d L a n cap zs hz hr hn hL z1 z2 z3
      refine h.mono ?_
      rintro e w1 ⟨a', c', rfl, ho, hb⟩
      have : ((L : Int)).toNat = L := by omega
      rw [this]
      exact ⟨_, _, _, rfl, ho, hm.below hb, But.of_below hb⟩
    · by_cases o2 : o = 2 ∨ o = 3
      · have hk := hL
        rw [len2 o2] at hk
        rw [deed_write o2, e1, show deedF o = 75 by unfold deedF; rw [if_neg o1, if_pos o2]]
        refine (write14_any w B L g nl cl ls hm o d k a n cap zs hz hr hn hL (by omega) (by omega) (hg (by omega)) (by omega)).mono ?_
        rintro e w1 ⟨rfl, ho, hb⟩
        exact ⟨_, _, _, rfl, nil_own _ _ _, ho, hb⟩
      · by_cases o6 : o = 6
        · subst o6
          have hk := hL
          rw [len1 (.inr rfl)] at hk
          subst hk
          rw [deed_zero, e1, show deedF 6 = 78 by rfl]
          refine (zero14_any w B L g nl cl ls hm 6 d L a n cap zs hz hr hn hL (by omega) (by omega)).mono ?_
          rintro e w1 ⟨rfl, ho, hb⟩
          have : ((L : Int)).toNat = L := by omega
          rw [this]
          exact ⟨_, _, _, rfl, nil_own _ _ _, ho, hb⟩
        · obtain rfl : o = 5 := by omega
          rw [show deedF 5 = 77 by rfl]
          refine (compare14_any w B g nl cl ls hm 5 d k a n cap zs hz hr (by rw [← hz]; exact code_two hc) (by omega)).mono ?_
          rintro e w1 ⟨c', ls', rfl, hx, ho, hb⟩
          rw [hx]
          exact ⟨_, _, _, rfl, nil_own _ _ _, ho, hb⟩

set_option maxHeartbeats 1600000 in
theorem code14_any (w : World) (gn gs : Int) (al : Option Addr) (nl cl : Nat) (ls : List Int) (hl : ls.length = nl) (o d b k : Int) (a : Option Addr) (n cap : Nat) (zs : List Int) (hz : zs.length = n) (hr : Reads .i64 w a zs) (hn : n ≤ 2097152) :
    Calls Try.prog 63 #[.slice al nl cl, .agg #[.int .i64 gn, .int .i64 gs], .agg #[.int .i64 o, .int .i64 d, .int .i64 b, .int .i64 k, .slice a n cap]] w fun e w' => e = .returned (.int .i64 (denyC gn gs ls o d b k zs)) ∧ Below w.heap.size w w' := by
  have hA : Below w.heap.size w ((w.alloc (.cells #[.int .i64 gn, .int .i64 gs] 25)).alloc (.cells #[.int .i64 o, .int .i64 d, .int .i64 b, .int .i64 k, .slice a n cap] 37)) := (new_below w _).alloc (by simp) _
  have G : Box ((w.alloc (.cells #[.int .i64 gn, .int .i64 gs] 25)).alloc (.cells #[.int .i64 o, .int .i64 d, .int .i64 b, .int .i64 k, .slice a n cap] 37)) w.heap.size 25 #[.int .i64 gn, .int .i64 gs] := (Box.new w _ _).below (new_below _ _) (by simp)
  have X : Box ((w.alloc (.cells #[.int .i64 gn, .int .i64 gs] 25)).alloc (.cells #[.int .i64 o, .int .i64 d, .int .i64 b, .int .i64 k, .slice a n cap] 37)) (w.heap.size + 1) 37 #[.int .i64 o, .int .i64 d, .int .i64 b, .int .i64 k, .slice a n cap] := by
    have := Box.new (w.alloc (.cells #[.int .i64 gn, .int .i64 gs] 25)) 37 #[.int .i64 o, .int .i64 d, .int .i64 b, .int .i64 k, .slice a n cap]
    simpa using this
  have hr' := hr.below hA
  obtain ⟨g0, g1⟩ := G.cells2
  have HL := hidden hl
  have zg := G.lt
  have zx := X.lt
  go_enter Try.func63, Try.ntmps63
  go_wp2_with fail
  generalize (w.alloc (.cells #[.int .i64 gn, .int .i64 gs] 25)).alloc (.cells #[.int .i64 o, .int .i64 d, .int .i64 b, .int .i64 k, .slice a n cap] 37) = W at hA G X hr' g0 g1 zg zx ⊢
  refine (implBlocks_any _ gn gs).mono ?_
  rintro e w1 ⟨rfl, b1⟩
  have hbr := blocksN_range gn gs
  by_cases hq : (nl : Int) = blocksN gn gs
  · have hqb : ((nl : Int) != blocksN gn gs) = false := by simp [hq]
    have HD := hidden (deny_code (ls := ls) (o := o) (d := d) (b := b) (k := k) (zs := zs) (by rw [HL.out]; exact hq))
    obtain ⟨y0, y1⟩ := (G.below b1 zg).cells2
    obtain ⟨x0, x1, x2, x3, x4⟩ := (X.below b1 zx).cells5
    have r1 := hr'.below b1
    clear hq
    go_wp2_with fail
    refine (implCmdCode_any _ gn gs o d b k _ _ _ zs hz r1 hn).mono ?_
    rintro e w2 ⟨rfl, b2⟩
    go_wp2
    go_ret
    exact ⟨ret_int HD.out.symm, Below.andThen (Below.andThen hA b1) b2⟩
  · have hqb : ((nl : Int) != blocksN gn gs) = true := by simp [hq]
    have HD := hidden (deny_len (ls := ls) (o := o) (d := d) (b := b) (k := k) (zs := zs) (by rw [HL.out]; exact hq))
    go_wp2
    go_ret
    exact ⟨ret_int HD.out.symm, Below.andThen hA b1⟩

theorem flush_room {gn gs d b k : Int} {zs : List Int} (h : codeC gn gs 4 d b k zs = 0) : 1 ≤ blocksN gn gs := by
  obtain ⟨hf, _, _⟩ := code_good h
  unfold formC at hf
  simp only [Bool.and_eq_true] at hf
  have := geoB_blocks hf.1.1
  rw [blocksN_of hf.1.1]
  omega
theorem Box.cells3 {w : World} {B : Nat} {T : TypeId} {v0 v1 v2 : Value} (h : Box w B T #[v0, v1, v2]) : w.cell? ⟨B, 0, none⟩ = some v0 ∧ w.cell? ⟨B, 1, none⟩ = some v1 ∧ w.cell? ⟨B, 2, none⟩ = some v2 := ⟨h.cell 0, h.cell 1, h.cell 2⟩
theorem ans_put {w : World} {B : Nat} {T : TypeId} {u0 u1 u2 : Value} (Y : Box w B T #[u0, u1, u2]) (v0 v1 v2 : Value) : Box (((w.setCell ⟨B, 0, none⟩ v0).setCell ⟨B, 1, none⟩ v1).setCell ⟨B, 2, none⟩ v2) B T #[v0, v1, v2] ∧ Turned [B] w (((w.setCell ⟨B, 0, none⟩ v0).setCell ⟨B, 1, none⟩ v1).setCell ⟨B, 2, none⟩ v2) :=
  ⟨((Y.set 0 v0).set 1 v1).set 2 v2, ((Turned.setCell v0 (by simp)).trans (Turned.setCell v1 (by simp))).trans (Turned.setCell v2 (by simp))⟩
theorem Turned.after {fp : List Nat} {w w1 w2 : World} {B : Nat} (h : Turned fp w w1) (k : Turned [B] w1 w2) (hB : w.heap.size ≤ B) : Turned fp w w2 :=
  ⟨k.os.trans h.os, k.tape.trans h.tape, k.output.trans h.output, Nat.le_trans h.size k.size, fun i hi ho => (k.block i (Nat.lt_of_lt_of_le hi h.size) (by simp; omega)).trans (h.block i hi ho)⟩
theorem But.turned1 {g : Nat} {w w' : World} (h : But g (g + 1) w w') : Turned [g] w w' := ⟨h.os, h.tape, h.output, h.size, fun k hk ho => h.block k hk (by simp at ho; omega)⟩
/-- What a command makes of the blocks, which lie in the blocks fp, and what it answers. -/
def Done14 (w : World) (al : Option Addr) (nl cl : Nat) (fp : List Nat) (d : Int) (x : List Int × Int × List Int) (e : Ending) (w' : World) : Prop :=
  ∃ a' m' c', e = .returned (.agg #[.int .i64 d, .int .i64 x.2.1, .slice a' m' c']) ∧ tIntS.Own w' w.heap.size w'.heap.size [.slice a' m' c'] x.2.2 ∧ tIntS.Mine w' [.slice al nl cl] x.1 fp ∧ Turned fp w w'
set_option maxHeartbeats 3200000 in
theorem do14_any (w : World) (gn gs : Int) (al : Option Addr) (nl cl : Nat) (ls : List Int) (fp : List Nat) (hm : tIntS.Mine w [.slice al nl cl] ls fp) (o d b k : Int) (a : Option Addr) (n cap : Nat) (zs : List Int) (hz : zs.length = n) (hr : Reads .i64 w a zs) (hn : n ≤ 2097152) (hg : 0 < n → ∀ x, a = some x → x.block ∉ fp) :
    Calls Try.prog 47 #[.slice al nl cl, .agg #[.int .i64 gn, .int .i64 gs], .agg #[.int .i64 o, .int .i64 d, .int .i64 b, .int .i64 k, .slice a n cap]] w (Done14 w al nl cl fp d (doC gn gs ls o d b k zs)) := by
  have hl := (row_length hm.rd).1
  have hA : Below w.heap.size w (((w.alloc (.cells #[.int .i64 gn, .int .i64 gs] 25)).alloc (.cells #[.int .i64 o, .int .i64 d, .int .i64 b, .int .i64 k, .slice a n cap] 37)).alloc (.cells #[.int .i64 0, .int .i64 0, .slice none 0 0] 44)) := ((new_below w _).alloc (by simp) _).alloc (by simp; omega) _
  have G : Box (((w.alloc (.cells #[.int .i64 gn, .int .i64 gs] 25)).alloc (.cells #[.int .i64 o, .int .i64 d, .int .i64 b, .int .i64 k, .slice a n cap] 37)).alloc (.cells #[.int .i64 0, .int .i64 0, .slice none 0 0] 44)) w.heap.size 25 #[.int .i64 gn, .int .i64 gs] := ((Box.new w _ _).below (new_below _ _) (by simp)).below (new_below _ _) (by simp; omega)
  have X : Box (((w.alloc (.cells #[.int .i64 gn, .int .i64 gs] 25)).alloc (.cells #[.int .i64 o, .int .i64 d, .int .i64 b, .int .i64 k, .slice a n cap] 37)).alloc (.cells #[.int .i64 0, .int .i64 0, .slice none 0 0] 44)) (w.heap.size + 1) 37 #[.int .i64 o, .int .i64 d, .int .i64 b, .int .i64 k, .slice a n cap] := by
    have := (Box.new (w.alloc (.cells #[.int .i64 gn, .int .i64 gs] 25)) 37 #[.int .i64 o, .int .i64 d, .int .i64 b, .int .i64 k, .slice a n cap]).below (new_below _ (.cells #[.int .i64 0, .int .i64 0, .slice none 0 0] 44)) (by simp)
    simpa using this
  have Y : Box (((w.alloc (.cells #[.int .i64 gn, .int .i64 gs] 25)).alloc (.cells #[.int .i64 o, .int .i64 d, .int .i64 b, .int .i64 k, .slice a n cap] 37)).alloc (.cells #[.int .i64 0, .int .i64 0, .slice none 0 0] 44)) (w.heap.size + 1 + 1) 44 #[.int .i64 0, .int .i64 0, .slice none 0 0] := by
    have := Box.new ((w.alloc (.cells #[.int .i64 gn, .int .i64 gs] 25)).alloc (.cells #[.int .i64 o, .int .i64 d, .int .i64 b, .int .i64 k, .slice a n cap] 37)) 44 #[.int .i64 0, .int .i64 0, .slice none 0 0]
    simpa using this
  have hr' := hr.below hA
  obtain ⟨g0, g1⟩ := G.cells2
  obtain ⟨x0, x1, x2, x3, x4⟩ := X.cells5
  have zx := X.lt
  have zy := Y.lt
  go_enter Try.func47, Try.ntmps47
  go_wp2_with fail
  generalize ((w.alloc (.cells #[.int .i64 gn, .int .i64 gs] 25)).alloc (.cells #[.int .i64 o, .int .i64 d, .int .i64 b, .int .i64 k, .slice a n cap] 37)).alloc (.cells #[.int .i64 0, .int .i64 0, .slice none 0 0] 44) = W at hA G X Y hr' g0 g1 x0 x1 x2 x3 x4 zx zy ⊢
  refine (code14_any _ gn gs al nl cl ls hl o d b k _ _ _ zs hz hr' hn).mono ?_
  rintro e w1 ⟨rfl, b1⟩
  have B1 := Below.andThen hA b1
  have X1 := X.below b1 zx
  have Y1 := Y.below b1 zy
  have M1 := hidden (hm.below B1)
  have R1 := hr'.below b1
  have zx1 := X1.lt
  have zy1 := Y1.lt
  have s1 := B1.size
  clear g0 g1 x0 x1 x2 x3 x4 zx zy hr' hr X Y G hA b1
  obtain ⟨x0, x1, x2, x3, x4⟩ := X1.cells5
  by_cases hd : denyC gn gs ls o d b k zs = 0
  · have hdb : (denyC gn gs ls o d b k zs != 0) = false := by simp [hd]
    have HD := hidden (doC_do hd)
    have ho := code_op (deny_not hd).2
    rcases ints_ow M1.out.1 with ⟨hv, hx0, hf0⟩ | ⟨g, cap1, hv, hf0, hown⟩
    · exfalso
      subst hx0
      have hq := (deny_not hd).1
      have hp := (deny_not hd).2
      by_cases h4 : o = 4
      · subst h4
        have := flush_room hp
        simp at hq
        omega
      · have := code_room hp h4
        simp at hq
        omega
    simp only [Value.slice.injEq] at hv
    obtain ⟨rfl, rfl, rfl⟩ := hv
    subst hf0
    have zgw := hm.lt g (by simp)
    have hg' : 0 < n → ∀ x, a = some x → x.block ≠ g := fun h0 x hx e => hg h0 x hx (by simp [e])
    have HO := hidden hown
    have HD2 := hidden hd
    have HE := hidden (deedF_enters o)
    clear hown hd hg
    go_wp2_with fail
    go_region_held3 (fun w' => w'.cell? ⟨w.heap.size + 1, 0, none⟩ = some (.int .i64 o) ∧ w'.cell? ⟨w.heap.size + 1, 1, none⟩ = some (.int .i64 d) ∧ w'.cell? ⟨w.heap.size + 1, 2, none⟩ = some (.int .i64 b) ∧ w'.cell? ⟨w.heap.size + 1, 3, none⟩ = some (.int .i64 k) ∧ w'.cell? ⟨w.heap.size + 1, 4, none⟩ = some (.slice a n cap))
      (first | (exact ⟨y0, y1, y2, y3, y4⟩) | (exact ⟨(q2.cell (p := ⟨w.heap.size + 1, 0, none⟩) zx1).trans x0, (q2.cell (p := ⟨w.heap.size + 1, 1, none⟩) zx1).trans x1, (q2.cell (p := ⟨w.heap.size + 1, 2, none⟩) zx1).trans x2, (q2.cell (p := ⟨w.heap.size + 1, 3, none⟩) zx1).trans x3, (q2.cell (p := ⟨w.heap.size + 1, 4, none⟩) zx1).trans x4⟩) | (exact ⟨x0, x1, x2, x3, x4⟩) | go_keep)
      (first | (go_at_call 64; refine (deedOf_any _ o ho.1 ho.2).mono ?_; rintro e w2 ⟨rfl, p2⟩; have q2 : Below w1.heap.size w1 w2 := (Below.refl w1.heap.size w1).drew.trans p2; have hent := (fun args w => deedF_enters o args w)) | (refine (deed_any _ gn gs g _ _ ls (by exact HO.out.below q2) o d b k _ _ _ zs hz (by exact R1.below q2) hn hg' HD2.out).mono ?_; rintro e w3 ⟨a3, m3, c3, rfl, o3, h3, b3⟩; have xb := X1.below q2 zx1; obtain ⟨y0, y1, y2, y3, y4⟩ := (xb.kept (b3.block _ xb.lt (.inr (by omega)))).cells5))
    have Y3 := (Y1.below q2 zy1).kept (b3.block _ (Y1.below q2 zy1).lt (.inr (by omega)))
    obtain ⟨u0, u1, u2⟩ := Y3.cells3
    have f0 := Y3.frozen 0
    have f1 := Y3.frozen 1
    have f2 := Y3.frozen 2
    have s2 := q2.size
    obtain ⟨YF, TF⟩ := ans_put Y3 (.int .i64 d) (.int .i64 (deedC ls o b k zs).2.1) (.slice a3 m3 c3)
    have HT := hidden (((Turned.ofBelow (Below.andThen B1 q2) [g]).trans (b3.turned1)).after TF (by omega))
    have HM := hidden ((Ty.Mine.kept (t := tIntS) ⟨ow_ints h3, by simp⟩ TF (by intro x hx hx'; simp at hx hx'; omega)))
    have HV := hidden ((o3.but (TF.but (lo := w.heap.size + 1 + 1) (hi := w.heap.size + 1 + 1 + 1) (by intro x hx; simp at hx; omega)) (.inr (by omega))).widen (lo' := w.heap.size) (by omega) TF.size)
    clear h3 o3 b3 TF
    go_wp2
    obtain ⟨v0, v1, v2⟩ := YF.cells3
    generalize ((w3.setCell ⟨w.heap.size + 1 + 1, 0, none⟩ (.int .i64 d)).setCell ⟨w.heap.size + 1 + 1, 1, none⟩ (.int .i64 (deedC ls o b k zs).2.1)).setCell ⟨w.heap.size + 1 + 1, 2, none⟩ (.slice a3 m3 c3) = wz at HT HM HV v0 v1 v2 ⊢
    refine bodyPost_ret (v := .agg #[.int .i64 d, .int .i64 (deedC ls o b k zs).2.1, .slice a3 m3 c3]) (by simp [results, Try.results47, go_sem, v0, v1, v2]) rfl ?_
    rw [HD.out]
    exact ⟨_, _, _, rfl, HV.out, HM.out, HT.out⟩
  · have hdb : (denyC gn gs ls o d b k zs != 0) = true := by simp [hd]
    have HD := hidden (doC_deny hd)
    obtain ⟨y0, y1, y2⟩ := Y1.cells3
    have f0 := Y1.frozen 0
    have f1 := Y1.frozen 1
    have f2 := Y1.frozen 2
    obtain ⟨YF, TF⟩ := ans_put Y1 (.int .i64 d) (.int .i64 (denyC gn gs ls o d b k zs)) (.slice none 0 0)
    have HT := hidden ((Turned.ofBelow B1 fp).after TF (by omega))
    have HM := hidden (M1.out.kept TF (by intro x hx hx'; have := hm.lt x hx; simp at hx'; omega))
    clear TF
    go_wp2
    obtain ⟨v0, v1, v2⟩ := YF.cells3
    generalize ((w1.setCell ⟨w.heap.size + 1 + 1, 0, none⟩ (.int .i64 d)).setCell ⟨w.heap.size + 1 + 1, 1, none⟩ (.int .i64 (denyC gn gs ls o d b k zs))).setCell ⟨w.heap.size + 1 + 1, 2, none⟩ (.slice none 0 0) = wz at HT HM v0 v1 v2 ⊢
    refine bodyPost_ret (v := .agg #[.int .i64 d, .int .i64 (denyC gn gs ls o d b k zs), .slice none 0 0]) (by simp [results, Try.results47, go_sem, v0, v1, v2]) rfl ?_
    rw [HD.out]
    exact ⟨_, _, _, rfl, nil_own _ _ _, HM.out, HT.out⟩

end Go.Proofs.Ytgjomldcnjjpaaa

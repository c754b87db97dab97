/-
  The walks of the program's look whether a disk lives at a stripe, and of a stripe's words. Condition: the array weighs at most 2097152.
-/
import Derived.Test.YtffekcblokohkabWalkWordOn
import Derived.Test.YtffekcblokohkabWalkImplArrOk2
import Derived.Test.YtffekcblokohkabWalkWords2
namespace Go.Proofs.Ytffekcblokohkab
open Go.RowKit

theorem wordOn_any (w : World) (E : TypeId) (x : ArrN) (ms : List MemD) (j : Nat) (v : Value) (s : Int) (hd : DiskV w E x ms j v) (hw : wtMemS ms ≤ 2097152) :
    Calls Try.prog 19 #[v, .int .i64 s] w fun e w' => e = .returned (.tuple #[.int .i64 (word6 x ms (j : Int) s), .bool (has6 x ms (j : Int) s)]) ∧ Below w.heap.size w w' := by
  obtain ⟨a0, a1, a3, c0, c1, c3, ss, cs, f, bs, hj, r0, r1, r3, h⟩ := hd
  have hwm := Nat.le_trans (inner_leM hj) hw
  obtain ⟨hh, hv⟩ := has_at6 (x := x) (s := s) hj
  have hl := live_at6 (x := x) (s := s) hj
  rcases h with ⟨rfl, rfl⟩ | ⟨rfl, hx, rfl⟩ | ⟨rfl, hx, rfl⟩
  · exact wordOn_failed w x ms j s (by rw [hh, hl]; rfl)
  · exact wordOn_lost w E x ms j s a0 a1 a3 c0 c1 c3 ss cs bs r0 r1 r3 hwm (by rw [hh, hl]; simp [hx]) hv
  · exact wordOn_sound w E x ms j s a0 a1 a3 c0 c1 c3 ss cs bs r0 r1 r3 hwm (by rw [hh, hl]; simp [hx]) hv

theorem bears_any (w : World) (E : TypeId) (x : ArrN) (ms : List MemD) (j : Nat) (v : Value) (s : Int) (hd : DiskV w E x ms j v) :
    Calls Try.prog 41 #[v, .int .i64 s] w fun e w' => e = .returned (.bool (liveB x ms (j : Int) s)) ∧ Below w.heap.size w w' := by
  obtain ⟨a0, a1, a3, c0, c1, c3, ss, cs, f, bs, hj, r0, r1, r3, h⟩ := hd
  have hl := live_at6 (x := x) (s := s) hj
  rcases h with ⟨rfl, rfl⟩ | ⟨rfl, hx, rfl⟩ | ⟨rfl, hx, rfl⟩
  · refine (bears_failed w s).mono ?_
    rintro e w' ⟨rfl, rfl⟩
    exact ⟨ret_bool (by rw [hl]; rfl), Below.refl _ _⟩
  · refine (bears_lost w _ _ _ _ _ _ _ _ _ _ _ _).mono ?_
    rintro e w' ⟨rfl, b⟩
    exact ⟨ret_bool (by rw [hl]; simp [hx]), b⟩
  · refine (bears_sound w _ _ _ _ _ _ _ _ _ _ _).mono ?_
    rintro e w' ⟨rfl, b⟩
    exact ⟨ret_bool (by rw [hl]; simp [hx]), b⟩

theorem fill6 (x : ArrN) (ms : List MemD) (s : Int) (n j : Nat) (h : j < n) : (wordL x ms s j ++ List.replicate (n - j) (0 : Int)).set j (word6 x ms (j : Int) s) = wordL x ms s (j + 1) ++ List.replicate (n - (j + 1)) (0 : Int) := by
  have e : n - j = (n - (j + 1)) + 1 := by omega
  rw [List.set_append, if_neg (by rw [wordL_len]; omega), wordL_len, Nat.sub_self, e, List.replicate_succ, List.set_cons_zero, wordL_succ, List.append_assoc]
  rfl

end Go.Proofs.Ytffekcblokohkab

/-
  Both PutCmd (the program's and the specification's) answer as the definition here says. Condition: at most 2097152 words.
-/
import Derived.Test.YtbkkjfgjlapadaaWalkCmdI
import Derived.Test.YtbkkjfgjlapadaaOwnLen
import Derived.Test.YtbkkjfgjlapadaaFrame
import Derived.Laws.AppendOwnNone
namespace Go.Proofs.Ytbkkjfgjlapadaa
open Go.RowKit

def putL (o d b k : Int) (zs : List Int) : List Int := o :: d :: b :: k :: (zs.length : Int) :: zs
def putB (o d b k : Int) (zs : List Int) : Bool := inB o 1 6 && (decide (zs.length ≤ 6) && allW (putL o d b k zs))
def putC (o d b k : Int) (zs : List Int) : List Int := if putB o d b k zs = true then putL o d b k zs else []
theorem putC_of {o d b k : Int} {zs : List Int} (h : putB o d b k zs = true) : putC o d b k zs = putL o d b k zs := by unfold putC; rw [if_pos h]
theorem putC_not {o d b k : Int} {zs : List Int} (h : putB o d b k zs = false) : putC o d b k zs = [] := by unfold putC; rw [if_neg (by simp [h])]
theorem putB_op {o d b k : Int} {zs : List Int} (h : inB o 1 6 = false) : putB o d b k zs = false := by unfold putB; rw [h]; rfl
theorem putB_long {o d b k : Int} {zs : List Int} (h : ¬ zs.length ≤ 6) : putB o d b k zs = false := by unfold putB; rw [decide_eq_false h]; simp
theorem putB_words {o d b k : Int} {zs : List Int} (h : allW (putL o d b k zs) = false) : putB o d b k zs = false := by unfold putB; rw [h]; simp
theorem putB_all {o d b k : Int} {zs : List Int} (h1 : inB o 1 6 = true) (h2 : zs.length ≤ 6) (h3 : allW (putL o d b k zs) = true) : putB o d b k zs = true := by unfold putB; rw [h1, decide_eq_true h2, h3]; rfl
theorem putL_len (o d b k : Int) (zs : List Int) : (putL o d b k zs).length = zs.length + 5 := rfl
theorem secB_put {o d b k : Int} {zs : List Int} (h : zs.length ≤ 6) : secB (putL o d b k zs) = allW (putL o d b k zs) := by
  unfold secB
  rw [putL_len, decide_eq_true (by omega)]
  rfl
theorem putC_le (o d b k : Int) (zs : List Int) : (putC o d b k zs).length ≤ 11 := by
  unfold putC
  split
  · rename_i h
    unfold putB at h
    simp only [Bool.and_eq_true, decide_eq_true_eq] at h
    rw [putL_len]
    omega
  · simp

/-- 'append' of a slice of numbers, empty or not, to a row of one's own. -/
theorem wpList_appAny {P : Program} {w : World} {ops : Array Oper} {rest : List Oper} {o : Oper} {a : Act} {Q : Exit → Act → World → Prop} (hgd : o.guard = none) (s x : Operand) (t : TypeId)
    (ho : o.op = .call { callee := .builtin .append, args := #[s, x], argTypes := #[t, t] })
    (lo : Nat) (i : TypeInfo) (ht : P.underlying t = some (.slice 3)) (hi : P.info? 3 = some i) (hz : i.zero = some (.int .i64 0))
    (hsize : i.size = 1) (hby : i.bytes = 8)
    (v : Value) (zs : List Int) (hs : a.eval s = v) (hown : Owns .i64 3 w lo v zs)
    (ad : Option Addr) (m c : Nat) (ys : List Int) (hx : a.eval x = .slice ad m c) (hr : tIntS.Rd w [.slice ad m c] ys)
    (h63 : zs.length + m ≤ maxLen) (hbytes : (zs.length + m) * 8 ≤ 140737488355328) (hbase : lo ≤ w.heap.size)
    (h : ∀ v' w', Owns .i64 3 w' lo v' (zs ++ ys) → Below lo w w' → wpList P ops Q rest (a.put o.dst v') w') : wpList P ops Q (o :: rest) a w := by
  obtain ⟨hrd, hl, _, _⟩ := ints_rd hr
  match ad, hx, hr, hrd with
  | none, hx, hr, _ =>
    obtain ⟨rfl, rfl, rfl⟩ := row_nil hr
    refine wpList_append_own_none hgd s x t ho lo 3 i 1 ht hi v zs.length (zs.map (Value.int .i64)) hs hown hx ?_
    refine h _ _ ?_ (Below.refl _ _)
    rw [List.append_nil]
    exact hown
  | some ad, hx, _, hrd =>
    exact wpList_app .i64 hgd s x t ho lo 3 i (.int .i64 0) 8 ht hi hz hsize hby rfl v zs hs hown ad m c ys hx hl hrd h63 hbytes hbase h

end Go.Proofs.Ytbkkjfgjlapadaa

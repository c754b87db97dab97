/-
  Both PutCmd (the program's and the specification's) answer as the definition here says. Condition: at most 2097152 words.
-/
import Derived.Test.YtplieehocceplaaWalkCmdI
import Derived.Test.YtplieehocceplaaOwnLen
import Derived.Test.YtplieehocceplaaFrame
import Derived.Laws.AppendOwnNone
namespace Go.Proofs.Ytplieehocceplaa
open Go.RowKit

def putL (o d b k : Int) (zs : List Int) : List Int := o :: d :: b :: k :: (zs.length : Int) :: zs
def putB (o d b k : Int) (zs : List Int) : Bool := inB o 1 6 && (decide (zs.length ≤ 6) && allW (putL o d b k zs))
def putC (o d b k : Int) (zs : List Int) : List Int := if putB o d b k zs = true then putL o d b k zs else []
theorem putC_of {o d b k : Int} {zs : List Int} (h : putB o d b k zs = true) : putC o d b k zs = putL o d b k zs := by unfold putC; rw [if_pos h]
theorem putC_not {o d b k : Int} {zs : List Int} (h : putB o d b k zs = false) : putC o d b k zs = [] := by unfold putC; rw [if_neg (by simp [h])]
theorem putB_op {o d b k : Int} {zs : List Int} (h : inB o 1 6 = false) : putB o d b k zs = false := by unfold putB; rw [h]; rfl
theorem putB_long {o d b k : Int} {zs : List Int} (h : ¬ zs.length ≤ 6) : putB o d b k zs = false := by unfold putB; rw [decide_eq_false h]; simp
theorem putB_words {o d b k : Int} {zs : List Int} (h : allW (putL o d b k zs) = false) : putB o d b k zs = false := by unfold putB; rw [h]; simp
theorem putB_all {o d b k : Int} {zs : List Int} (h1 : inB o 1 6 = true) (h2 : zs.length ≤ 6) (h3 : allW (putL o d b k zs) = true) : putB o d b k zs = true := by unfold putB; rw [h1, decide_eq_true h2, h3]; rfl
theorem putL_len (o d b k : Int) (zs : List Int) : (putL o d b k zs).length = zs.length + 5 := rfl
theorem secB_put {o d b k : Int} {zs : List Int} (h : zs.length ≤ 6) : secB (putL o d b k zs) = allW (putL o d b k zs) := by
  unfold secB
  rw [putL_len, decide_eq_true (by omega)]
  rfl
theorem putC_le (o d b k : Int) (zs : List Int) : (putC o d b k zs).length ≤ 11 := by
  unfold putC
  split
  · rename_i h
    unfold putB at h
    simp only [Bool.and_eq_true, decide_eq_true_eq] at h
    rw [putL_len]
    omega
  · simp

/-- 'append' of a slice of numbers, empty or not, to a row of one's own. -/
theorem wpList_appAny {P : Program} {w : World} {ops : Array Oper} {rest : List Oper} {o : Oper} {a : Act} {Q : Exit → Act → World → Prop} (hgd : o.guard = none) (s x : Operand) (t : TypeId)
    (ho : o.op = .call { callee := .builtin .append, args := #[s, x], argTypes := #[t, t] })
    (lo : Nat) (i : TypeInfo) (ht : P.underlying t = some (.slice 3)) (hi : P.info? 3 = some i) (hz : i.zero = some (.int .i64 0))
    (hsize : i.size = 1) (hby : i.bytes = 8)
    (v : Value) (zs : List Int) (hs : a.eval s = v) (hown : Owns .i64 3 w lo v zs)
    (ad : Option Addr) (m c : Nat) (ys : List Int) (hx : a.eval x = .slice ad m c) (hr : tIntS.Rd w [.slice ad m c] ys)
    (h63 : zs.length + m ≤ maxLen) (hbytes : (zs.length + m) * 8 ≤ 140737488355328) (hbase : lo ≤ w.heap.size)
    (h : ∀ v' w', Owns .i64 3 w' lo v' (zs ++ ys) → Below lo w w' → wpList P ops Q rest (a.put o.dst v') w') : wpList P ops Q (o :: rest) a w := by
  obtain ⟨hrd, hl, _, _⟩ := ints_rd hr
  match ad, hx, hr, hrd with
  | none, hx, hr, _ =>
    obtain ⟨rfl, rfl, rfl⟩ := row_nil hr
    refine wpList_append_own_none hgd s x t ho lo 3 i 1 ht hi v zs.length (zs.map (Value.int .i64)) hs hown hx ?_
    refine h _ _ ?_ (Below.refl _ _)
    rw [List.append_nil]
    exact hown
  | some ad, hx, _, hrd =>
    exact wpList_app .i64 hgd s x t ho lo 3 i (.int .i64 0) 8 ht hi hz hsize hby rfl v zs hs hown ad m c ys hx hl hrd h63 hbytes hbase h

set_option maxHeartbeats 3200000 in
theorem specPutCmd_any (w : World) (o d b k : Int) (a : Option Addr) (n cap : Nat) (zs : List Int) (h : tIntS.Rd w [.slice a n cap] zs) (hn : n ≤ 1500000) :
    Calls Try.prog 16 #[.agg #[.int .i64 o, .int .i64 d, .int .i64 b, .int .i64 k, .slice a n cap]] w fun e w' => ∃ a l c, e = .returned (.slice a l c) ∧ tIntS.Own w' w.heap.size w'.heap.size [.slice a l c] (putC o d b k zs) ∧ Below w.heap.size w w' := by
  obtain ⟨i0, hi, hz0, hz1, hz2⟩ := info_parts Try.info3
  obtain ⟨hr, hz, hnc, hcm⟩ := ints_rd h
  have hA := new_below w (.cells #[.int .i64 o, .int .i64 d, .int .i64 b, .int .i64 k, .slice a n cap] 26)
  have X := Box.new w 26 #[.int .i64 o, .int .i64 d, .int .i64 b, .int .i64 k, .slice a n cap]
  have hr' := hr.below hA
  have h' := h.below hA
  have zA := X.lt
  obtain ⟨c0, c1, c2, c3, c4⟩ := X.cells5
  have PL := hidden (putL_len o d b k zs)
  clear h hr
  have e1 : (w.alloc (.cells #[.int .i64 o, .int .i64 d, .int .i64 b, .int .i64 k, .slice a n cap] 26)).heap.size = w.heap.size + 1 := by simp
  have X1 := X
  have B1 := hA
  have h1 := h'
  have hB2 := new_below (w.alloc (.cells #[.int .i64 o, .int .i64 d, .int .i64 b, .int .i64 k, .slice a n cap] 26)) (.cells #[.int .i64 o, .int .i64 d, .int .i64 b, .int .i64 k, .int .i64 n] 3)
  have R2 := h1.below hB2
  have hO0 : Owns .i64 3 ((w.alloc (.cells #[.int .i64 o, .int .i64 d, .int .i64 b, .int .i64 k, .slice a n cap] 26)).alloc (.cells #[.int .i64 o, .int .i64 d, .int .i64 b, .int .i64 k, .int .i64 n] 3)) (w.alloc (.cells #[.int .i64 o, .int .i64 d, .int .i64 b, .int .i64 k, .slice a n cap] 26)).heap.size (.slice (some ⟨(w.alloc (.cells #[.int .i64 o, .int .i64 d, .int .i64 b, .int .i64 k, .slice a n cap] 26)).heap.size, 0, none⟩) 5 5) [o, d, b, k, n] := Owns.lit .i64 3 (w.alloc (.cells #[.int .i64 o, .int .i64 d, .int .i64 b, .int .i64 k, .slice a n cap] 26)) [o, d, b, k, n] 5 _ rfl rfl (by unfold maxLen; omega)
  have hO := hO0
  rw [e1] at hO
  have k4 := (hB2.cell (p := ⟨w.heap.size, 4, none⟩) zA).trans c4
  go_enter Try.func16, Try.ntmps16
  go_wp2_with (at_builtin; refine wpList_appAny rfl _ _ 24 rfl (w.heap.size + 1) i0 Try.underlying24 hi hz0 hz1 hz2 _ [o, d, b, k, (n : Int)] rfl hO _ n cap zs rfl R2 (by unfold maxLen; simp; omega) (by simp; omega) (by simp) ?_; intro v' w2 ho2 hb2; obtain ⟨a5, c5, hv1, _⟩ := ho2.shape; rw [show ([o, d, b, k, (n : Int)] ++ zs).length = n + 5 by simp; omega] at hv1; subst hv1; have hb2' := hb2; rw [← e1] at hb2'; obtain ⟨f0, f1, f2, f3, f4⟩ := ((X1.below hB2 zA).below hb2' zA).cells5)
  have O2 := hidden ho2
  have B2 := B1.trans ((hB2.trans hb2').mono B1.size)
  have X2 := (X1.below hB2 X1.lt).below hb2' X1.lt
  have z12 := (hB2.trans hb2').size
  have zA2 : w.heap.size ≤ w.heap.size + 1 := Nat.le_succ _
  rw [show [o, d, b, k, (n : Int)] ++ zs = putL o d b k zs by rw [← hz]; rfl] at O2
  obtain ⟨r2, l2, _, _⟩ := ints_rd (own_ints O2.out).rd
  clear hO0 ho2 hb2 hb2' hO hB2 R2 k4 c0 c1 c2 c3 c4
  refine (l1In_any _ _ _ _).mono ?_
  rintro e w3 ⟨rfl, hw⟩
  subst w3
  cases ho : inB o 1 6
  · have HX := hidden (putC_not (putB_op (d := d) (b := b) (k := k) (zs := zs) ho))
    go_wp2
    go_ret
    refine ⟨_, _, _, rfl, ?_, B2.alloc B2.size _⟩
    rw [HX.out]
    exact (own_ints (Owns.lit .i64 3 w2 [] 0 #[] rfl rfl (by unfold maxLen; omega))).widen B2.size (Nat.le_refl _)
  · skip
    go_wp2_with fail
    refine (l1Words_any _ _ _ _ (putL o d b k zs) l2 r2 (by omega)).mono ?_
    rintro e w3 ⟨rfl, hw⟩
    subst w3
    cases ha : allW (putL o d b k zs)
    · have HX := hidden (putC_not (putB_words ha))
      go_wp2
      go_ret
      refine ⟨_, _, _, rfl, ?_, B2.alloc B2.size _⟩
      rw [HX.out]
      exact (own_ints (Owns.lit .i64 3 w2 [] 0 #[] rfl rfl (by unfold maxLen; omega))).widen B2.size (Nat.le_refl _)
    · by_cases h6 : zs.length ≤ 6
      · have HX := hidden (putC_of (putB_all ho h6 ha))
        have hq : decide ((6 : Int) < (n : Int)) = false := decide_eq_false (by omega)
        have hq2 : ¬ (6 : Int) < (n : Int) := by omega
        go_wp2
        go_ret
        refine ⟨_, _, _, rfl, ?_, B2⟩
        rw [HX.out]
        exact (own_ints O2.out).widen zA2 (Nat.le_refl _)
      · have HX := hidden (putC_not (putB_long (o := o) (d := d) (b := b) (k := k) h6))
        have hq : decide ((6 : Int) < (n : Int)) = true := decide_eq_true (by omega)
        have hq2 : (6 : Int) < (n : Int) := by omega
        go_wp2
        go_ret
        refine ⟨_, _, _, rfl, ?_, B2.alloc B2.size _⟩
        rw [HX.out]
        exact (own_ints (Owns.lit .i64 3 w2 [] 0 #[] rfl rfl (by unfold maxLen; omega))).widen B2.size (Nat.le_refl _)

set_option maxHeartbeats 3200000 in
theorem implPutCmd_any (w : World) (o d b k : Int) (a : Option Addr) (n cap : Nat) (zs : List Int) (h : tIntS.Rd w [.slice a n cap] zs) (hn : n ≤ 1500000) :
    Calls Try.prog 11 #[.agg #[.int .i64 o, .int .i64 d, .int .i64 b, .int .i64 k, .slice a n cap]] w fun e w' => ∃ a l c, e = .returned (.slice a l c) ∧ tIntS.Own w' w.heap.size w'.heap.size [.slice a l c] (putC o d b k zs) ∧ Below w.heap.size w w' := by
  obtain ⟨i0, hi, hz0, hz1, hz2⟩ := info_parts Try.info3
  obtain ⟨hr, hz, hnc, hcm⟩ := ints_rd h
  have hA := new_below w (.cells #[.int .i64 o, .int .i64 d, .int .i64 b, .int .i64 k, .slice a n cap] 26)
  have X := Box.new w 26 #[.int .i64 o, .int .i64 d, .int .i64 b, .int .i64 k, .slice a n cap]
  have hr' := hr.below hA
  have h' := h.below hA
  have zA := X.lt
  obtain ⟨c0, c1, c2, c3, c4⟩ := X.cells5
  have PL := hidden (putL_len o d b k zs)
  clear h hr
  go_enter Try.func11, Try.ntmps11
  go_wp2_with fail
  generalize w.alloc (.cells #[.int .i64 o, .int .i64 d, .int .i64 b, .int .i64 k, .slice a n cap] 26) = w1 at hA X hr' h' zA c0 c1 c2 c3 c4 ⊢
  refine (opOk_any _ _).mono ?_
  rintro e w3 ⟨rfl, hw⟩
  subst w3
  have X1 := X
  have B1 := hA
  have h1 := h'
  cases ho : inB o 1 6
  · have HX := hidden (putC_not (putB_op (d := d) (b := b) (k := k) (zs := zs) ho))
    go_wp2
    go_ret
    refine ⟨_, _, _, rfl, ?_, B1.alloc B1.size _⟩
    rw [HX.out]
    exact (own_ints (Owns.lit .i64 3 w1 [] 0 #[] rfl rfl (by unfold maxLen; omega))).widen B1.size (Nat.le_refl _)
  · by_cases h6 : zs.length ≤ 6
    · have hq : decide ((6 : Int) < (n : Int)) = false := decide_eq_false (by omega)
      have hq2 : ¬ (6 : Int) < (n : Int) := by omega
      have hB2 := new_below w1 (.cells #[.int .i64 o, .int .i64 d, .int .i64 b, .int .i64 k, .int .i64 n] 3)
      have R2 := h1.below hB2
      have hO : Owns .i64 3 (w1.alloc (.cells #[.int .i64 o, .int .i64 d, .int .i64 b, .int .i64 k, .int .i64 n] 3)) w1.heap.size (.slice (some ⟨w1.heap.size, 0, none⟩) 5 5) [o, d, b, k, n] := Owns.lit .i64 3 w1 [o, d, b, k, n] 5 _ rfl rfl (by unfold maxLen; omega)
      have k4 := (hB2.cell (p := ⟨w.heap.size, 4, none⟩) X1.lt).trans c4
      go_wp2_with (at_builtin; refine wpList_appAny rfl _ _ 24 rfl w1.heap.size i0 Try.underlying24 hi hz0 hz1 hz2 _ [o, d, b, k, (n : Int)] rfl hO _ n cap zs rfl R2 (by unfold maxLen; simp; omega) (by simp; omega) (by simp) ?_; intro v' w2 ho2 hb2; obtain ⟨a5, c5, hv1, _⟩ := ho2.shape; rw [show ([o, d, b, k, (n : Int)] ++ zs).length = n + 5 by simp; omega] at hv1; subst hv1)
      have O2 := hidden ho2
      have B2 := B1.trans ((hB2.trans hb2).mono B1.size)
      have X2 := (X1.below hB2 X1.lt).below hb2 X1.lt
      have z12 := (hB2.trans hb2).size
      have zA2 := B1.size
      rw [show [o, d, b, k, (n : Int)] ++ zs = putL o d b k zs by rw [← hz]; rfl] at O2
      obtain ⟨r2, l2, _, _⟩ := ints_rd (own_ints O2.out).rd
      clear ho2 hb2 hO hB2 R2 k4 c0 c1 c2 c3 c4
      have HS := hidden (secB_put (o := o) (d := d) (b := b) (k := k) h6)
      go_wp2_with fail
      refine (implSecOk_any _ _ _ _ (putL o d b k zs) l2 r2 (by omega)).mono ?_
      rintro e w3 ⟨rfl, s3⟩
      rw [HS.out]
      have B3 := Below.andSame B2 s3
      cases ha : allW (putL o d b k zs)
      · have HX := hidden (putC_not (putB_words ha))
        go_wp2
        go_ret
        refine ⟨_, _, _, rfl, ?_, B3.alloc B3.size _⟩
        rw [HX.out]
        exact (own_ints (Owns.lit .i64 3 w3 [] 0 #[] rfl rfl (by unfold maxLen; omega))).widen B3.size (Nat.le_refl _)
      · have HX := hidden (putC_of (putB_all ho h6 ha))
        go_wp2
        go_ret
        refine ⟨_, _, _, rfl, ?_, B3⟩
        rw [HX.out]
        exact ((own_ints O2.out).same s3).widen zA2 (Nat.le_of_eq s3.size.symm)
    · have HX := hidden (putC_not (putB_long (o := o) (d := d) (b := b) (k := k) h6))
      have hq : decide ((6 : Int) < (n : Int)) = true := decide_eq_true (by omega)
      have hq2 : (6 : Int) < (n : Int) := by omega
      go_wp2
      go_ret
      refine ⟨_, _, _, rfl, ?_, B1.alloc B1.size _⟩
      rw [HX.out]
      exact (own_ints (Owns.lit .i64 3 w1 [] 0 #[] rfl rfl (by unfold maxLen; omega))).widen B1.size (Nat.le_refl _)

end Go.Proofs.Ytplieehocceplaa

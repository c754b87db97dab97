/-
  Plain lemmas: a sector's bytes come back, what was got is put again, and cut bytes are not got. No condition but those that each names.
-/
import Derived.Test.YtmkiljflkndmoaaWalkDraw3
import Derived.Test.YtmkiljflkndmoaaWalkGet
namespace Go.Proofs.Ytmkiljflkndmoaa
open Go.RowKit

theorem orW_eq {h l : Int} (h0 : 0 ≤ h) (h1 : h ≤ 255) (l0 : 0 ≤ l) (l1 : l ≤ 255) : orW h l = h * 256 + l := by
  unfold orW
  exact bits_join .i64 16 (by decide) (fun n h₀ h₁ => IntWalk.i64_in n (by omega)) 8 (h * 256) l (by omega) (by omega) (by omega) l0 (by omega) (by omega)

theorem wordsL_getD (xs : List Int) : ∀ i, i < xs.length → (wordsL xs).getD (2 * i) 0 = xs.getD i 0 / 256 ∧ (wordsL xs).getD (2 * i + 1) 0 = xs.getD i 0 % 256 := by
  induction xs with
  | nil => intro i hi; simp at hi
  | cons x xs ih =>
    intro i hi
    have e : wordsL (x :: xs) = (x / 256) :: (x % 256) :: wordsL xs := rfl
    rw [e]
    match i, hi with
    | 0, _ => exact ⟨rfl, rfl⟩
    | i + 1, hi =>
      have := ih i (by simpa using hi)
      have e2 : 2 * (i + 1) = 2 * i + 1 + 1 := by omega
      rw [e2]
      simpa using this

theorem getWs_back {bs xs : List Int} (hw : allW xs = true) (m : Nat) (hm : m ≤ xs.length) : getWs (bs ++ ((xs.length : Int) :: wordsL xs)) bs.length m = xs.take m := by
  induction m with
  | zero => simp [getWs]
  | succ m ih =>
    rw [getWs_succ, ih (by omega)]
    have hmx : m < xs.length := by omega
    obtain ⟨h0, h1⟩ := allW_at (xs := xs) (j := m) hmx rfl hw
    have hg := wordsL_getD xs m hmx
    have d1 : (bs ++ ((xs.length : Int) :: wordsL xs)).getD (bs.length + 1 + 2 * m) 0 = xs.getD m 0 / 256 := by
      rw [List.getD_eq_getElem?_getD, List.getElem?_append_right (by omega), show bs.length + 1 + 2 * m - bs.length = 2 * m + 1 by omega, List.getElem?_cons_succ, ← List.getD_eq_getElem?_getD]
      exact hg.1
    have d2 : (bs ++ ((xs.length : Int) :: wordsL xs)).getD (bs.length + 2 + 2 * m) 0 = xs.getD m 0 % 256 := by
      rw [List.getD_eq_getElem?_getD, List.getElem?_append_right (by omega), show bs.length + 2 + 2 * m - bs.length = (2 * m + 1) + 1 by omega, List.getElem?_cons_succ, ← List.getD_eq_getElem?_getD]
      exact hg.2
    rw [d1, d2, orW_eq (by omega) (by omega) (by omega) (by omega), List.take_succ_eq_append_getElem hmx]
    have e : xs.getD m 0 / 256 * 256 + xs.getD m 0 % 256 = xs[m] := by
      have : xs.getD m 0 = xs[m] := by simp [List.getElem?_eq_getElem hmx]
      omega
    rw [e]

theorem head_getD (bs : List Int) (n : Int) (t : List Int) : (bs ++ (n :: t)).getD bs.length 0 = n := by
  rw [List.getD_eq_getElem?_getD, List.getElem?_append_right (Nat.le_refl _), Nat.sub_self]
  rfl

theorem comes_back {bs xs : List Int} (h : secB xs = true) :
    getOk (putL bs xs) (bs.length : Int) = true ∧ getL (putL bs xs) (bs.length : Int) = xs ∧ getAt (putL bs xs) (bs.length : Int) = ((putL bs xs).length : Int) := by
  have hl : xs.length ≤ 12 := by simp [secB] at h; omega
  have hw : allW xs = true := by simp [secB] at h; exact h.2
  have hp : putL bs xs = bs ++ ((xs.length : Int) :: wordsL xs) := by unfold putL; rw [if_pos h]
  rw [hp]
  have hd := head_getD bs (xs.length : Int) (wordsL xs)
  have hln : (bs ++ ((xs.length : Int) :: wordsL xs)).length = bs.length + 1 + 2 * xs.length := by rw [List.length_append, List.length_cons, wordsL_length]; omega
  have hok : getOk (bs ++ ((xs.length : Int) :: wordsL xs)) (bs.length : Int) = true := by
    unfold getOk
    rw [Int.toNat_natCast, hd, hln]
    simp only [Bool.and_eq_true, decide_eq_true_eq]
    omega
  refine ⟨hok, ?_, ?_⟩
  · unfold getL
    rw [if_pos hok, Int.toNat_natCast, hd, Int.toNat_natCast, getWs_back hw _ (Nat.le_refl _), List.take_length]
  · unfold getAt
    rw [if_pos hok, Int.toNat_natCast, hd, hln]
    omega

theorem cut_not {bs xs : List Int} (h : secB xs = true) : getOk ((putL bs xs).take ((putL bs xs).length - 1)) (bs.length : Int) = false := by
  have hp : putL bs xs = bs ++ ((xs.length : Int) :: wordsL xs) := by unfold putL; rw [if_pos h]
  rw [hp]
  have hd := head_getD bs (xs.length : Int) (wordsL xs)
  have hln : (bs ++ ((xs.length : Int) :: wordsL xs)).length = bs.length + 1 + 2 * xs.length := by rw [List.length_append, List.length_cons, wordsL_length]; omega
  by_cases h0 : xs.length = 0
  · have hlt : ¬ (bs.length : Int) < (((bs ++ ((xs.length : Int) :: wordsL xs)).take ((bs ++ ((xs.length : Int) :: wordsL xs)).length - 1)).length : Int) := by
      rw [List.length_take, hln]; omega
    unfold getOk
    rw [decide_eq_false hlt]
    simp
  · have hg : ((bs ++ ((xs.length : Int) :: wordsL xs)).take ((bs ++ ((xs.length : Int) :: wordsL xs)).length - 1)).getD bs.length 0 = (xs.length : Int) := by
      rw [List.getD_eq_getElem?_getD, List.getElem?_take, if_pos (by rw [hln]; omega), ← List.getD_eq_getElem?_getD, hd]
    have hlt : ¬ 2 * ((bs ++ ((xs.length : Int) :: wordsL xs)).take ((bs ++ ((xs.length : Int) :: wordsL xs)).length - 1)).getD ((bs.length : Int).toNat) 0 ≤ (((bs ++ ((xs.length : Int) :: wordsL xs)).take ((bs ++ ((xs.length : Int) :: wordsL xs)).length - 1)).length : Int) - (bs.length : Int) - 1 := by
      rw [Int.toNat_natCast, hg, List.length_take, hln]; omega
    unfold getOk
    rw [decide_eq_false hlt]
    simp

theorem wordsL_append (a b : List Int) : wordsL (a ++ b) = wordsL a ++ wordsL b := by unfold wordsL; rw [List.flatMap_append]

theorem words_again {cs : List Int} (hb : ∀ x ∈ cs, 0 ≤ x ∧ x ≤ 255) (p m : Nat) (h : p + 1 + 2 * m ≤ cs.length) : wordsL (getWs cs p m) = (cs.drop (p + 1)).take (2 * m) ∧ allW (getWs cs p m) = true := by
  induction m with
  | zero => exact ⟨by simp [getWs, wordsL], by simp [getWs, allW]⟩
  | succ m ih =>
    obtain ⟨ih1, ih2⟩ := ih (by omega)
    have b1 := byte_at hb (p + 1 + 2 * m)
    have b2 := byte_at hb (p + 2 + 2 * m)
    rw [getWs_succ, wordsL_append, ih1, orW_eq b1.1 b1.2 b2.1 b2.2]
    have l1 : p + 1 + 2 * m < cs.length := by omega
    have l2 : p + 2 + 2 * m < cs.length := by omega
    have g1 : cs.getD (p + 1 + 2 * m) 0 = cs[p + 1 + 2 * m] := by simp [List.getElem?_eq_getElem l1]
    have g2 : cs.getD (p + 2 + 2 * m) 0 = cs[p + 2 + 2 * m] := by simp [List.getElem?_eq_getElem l2]
    refine ⟨?_, ?_⟩
    · have e : 2 * (m + 1) = 2 * m + 1 + 1 := by omega
      have k1 : 2 * m < (cs.drop (p + 1)).length := by simp; omega
      have k2 : 2 * m + 1 < (cs.drop (p + 1)).length := by simp; omega
      rw [e, List.take_succ_eq_append_getElem k2, List.take_succ_eq_append_getElem k1, List.append_assoc]
      congr 1
      show [_, _] = [_] ++ [_]
      rw [g1, g2, List.getElem_drop, List.getElem_drop]
      have q1 : (cs[p + 1 + 2 * m] * 256 + cs[p + 2 + 2 * m]) / 256 = cs[p + 1 + 2 * m] := by omega
      have q2 : (cs[p + 1 + 2 * m] * 256 + cs[p + 2 + 2 * m]) % 256 = cs[p + 2 + 2 * m] := by omega
      rw [q1, q2]
      have q3 : cs[p + 1 + (2 * m + 1)] = cs[p + 2 + 2 * m] := by congr 1; omega
      simp [q3]
    · unfold allW at *
      rw [List.all_append, ih2, g1, g2]
      rw [g1] at b1
      rw [g2] at b2
      simp [isW]
      omega

/-- What was got, put again. -/
theorem put_again {cs : List Int} (hb : ∀ x ∈ cs, 0 ≤ x ∧ x ≤ 255) (p : Nat) (h : getOk cs (p : Int) = true) :
    p < cs.length ∧ ∃ n : Nat, n ≤ 12 ∧ p + 1 + 2 * n ≤ cs.length ∧ getAt cs (p : Int) = (p : Int) + 1 + 2 * (n : Int) ∧ putL [] (getL cs (p : Int)) = (cs.drop p).take (1 + 2 * n) := by
  have h' := h
  unfold getOk at h'
  rw [Int.toNat_natCast] at h'
  simp only [Bool.and_eq_true, decide_eq_true_eq] at h'
  obtain ⟨⟨⟨_, hp⟩, h12⟩, h2⟩ := h'
  have b0 := byte_at hb p
  obtain ⟨n, hn⟩ := Int.eq_ofNat_of_zero_le b0.1
  rw [hn] at h12 h2
  have hpl : p < cs.length := by omega
  refine ⟨hpl, n, by omega, by omega, ?_, ?_⟩
  · unfold getAt
    rw [if_pos h, Int.toNat_natCast, hn]
  · obtain ⟨e1, e2⟩ := words_again hb p n (by omega)
    have eg : getL cs (p : Int) = getWs cs p n := by
      unfold getL
      rw [if_pos h, Int.toNat_natCast, hn, Int.toNat_natCast]
    have hs : secB (getWs cs p n) = true := by
      unfold secB
      rw [e2, getWs_length]
      simp
      omega
    rw [eg]
    unfold putL
    rw [if_pos hs, e1, getWs_length, List.nil_append, List.drop_eq_getElem_cons hpl, Nat.add_comm 1, List.take_succ_cons]
    have : cs[p] = (n : Int) := by rw [← hn]; simp [List.getElem?_eq_getElem hpl]
    rw [this]

theorem Reads.sub {k : IntKind} {w : World} {b off : Nat} {zs : List Int} (h : Reads k w (some ⟨b, off, none⟩) zs) (p l : Nat) : Reads k w (some ⟨b, off + p, none⟩) ((zs.drop p).take l) := by
  rcases h with rfl | ⟨b', off', ha, hlt, hc⟩
  · exact .inl (by simp)
  · simp only [Option.some.injEq, Addr.mk.injEq, and_true] at ha
    obtain ⟨rfl, rfl⟩ := ha
    refine .inr ⟨b, off + p, rfl, hlt, fun i hi => ?_⟩
    have hl : i < l ∧ p + i < zs.length := by simp at hi; omega
    have := hc (p + i) hl.2
    rw [Nat.add_assoc, this, List.getD_eq_getElem?_getD, List.getD_eq_getElem?_getD, List.getElem?_take, if_pos hl.1, List.getElem?_drop]

theorem getL_length (b : List Int) (p : Int) : (getL b p).length ≤ 12 := by
  unfold getL
  split
  · rename_i h
    rw [getWs_length]
    unfold getOk at h
    simp only [Bool.and_eq_true, decide_eq_true_eq] at h
    omega
  · simp

theorem Own.cap {k : IntKind} {E : TypeId} {w : World} {lo hi n cap : Nat} {a : Option Addr} {zs : List Int} (h : Own k E w lo hi (.slice a n cap) zs) : n ≤ cap ∧ cap ≤ 9223372036854775807 := by
  have hl := h.length
  rcases h.1.2 with ⟨hv, hn⟩ | ⟨g, cap', cur, hv, _, _, hnc, hcm, _⟩
  · simp only [Value.slice.injEq] at hv
    omega
  · simp only [Value.slice.injEq] at hv
    unfold maxLen at hcm
    omega

theorem putL_bytes {bs xs : List Int} (hb : ∀ x ∈ bs, 0 ≤ x ∧ x ≤ 255) : ∀ x ∈ putL bs xs, 0 ≤ x ∧ x ≤ 255 := by
  intro y hy
  unfold putL at hy
  split at hy
  · rename_i h
    have hl : xs.length ≤ 12 := by simp [secB] at h; omega
    have hw : allW xs = true := by simp [secB] at h; exact h.2
    rcases List.mem_append.1 hy with hy | hy
    · exact hb y hy
    · rcases List.mem_cons.1 hy with rfl | hy
      · omega
      · exact wordsL_bytes hw y hy
  · exact hb y hy

theorem putL_length (b s : List Int) : (putL b s).length ≤ b.length + 25 := by
  unfold putL
  split
  · rename_i h
    have : s.length ≤ 12 := by simp [secB] at h; omega
    rw [List.length_append, List.length_cons, wordsL_length]
    omega
  · omega

theorem putL_some {b s : List Int} (h : secB s = true) : 1 ≤ (putL b s).length := by
  unfold putL
  rw [if_pos h, List.length_append, List.length_cons]
  omega

theorem putL_none {b s : List Int} (h : secB s = false) : putL b s = b := by
  unfold putL
  rw [if_neg (by simp [h])]

end Go.Proofs.Ytmkiljflkndmoaa

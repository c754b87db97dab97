/-
  Commands in two parts are as all of them; two that do not meet may change their places. Plain lemmas. No condition.
-/
import Derived.Test.YtgjomldcnjjpaaaDos14
namespace Go.Proofs.Ytgjomldcnjjpaaa
open Go.RowKit

theorem doS_app {gn gs : Int} {ls : List Int} {cs ds : List CmdD} (h : (cs ++ ds).length ≤ 400) : doS gn gs ls (cs ++ ds) = ((doS gn gs (doS gn gs ls cs).1 ds).1, (doS gn gs ls cs).2 ++ (doS gn gs (doS gn gs ls cs).1 ds).2) := by
  rw [List.length_append] at h
  unfold doS
  rw [List.take_of_length_le (by rw [List.length_append]; omega), List.take_of_length_le (l := cs) (by omega), List.take_of_length_le (l := ds) (by omega)]
  exact doL_app gn gs ls cs ds

theorem over_at {ls s : List Int} {b : Nat} (h : b + s.length ≤ ls.length) (i : Nat) : (over ls b s)[i]? = if i < b then ls[i]? else if i < b + s.length then s[i - b]? else ls[i]? := by
  unfold over
  have hb : (ls.take b).length = b := by simp; omega
  by_cases h1 : i < b
  · rw [if_pos h1, List.getElem?_append_left (by omega), List.getElem?_take, if_pos h1]
  · rw [if_neg h1, List.getElem?_append_right (by omega), hb]
    by_cases h2 : i < b + s.length
    · rw [if_pos h2, List.getElem?_append_left (by omega)]
    · rw [if_neg h2, List.getElem?_append_right (by omega), List.getElem?_drop]
      congr 1
      omega
/-- The blocks of a command. -/
def part14 (ls : List Int) (b L : Nat) : List Int := (ls.drop b).take L
theorem part_at (ls : List Int) (b L i : Nat) : (part14 ls b L)[i]? = if i < L then ls[b + i]? else none := by
  unfold part14
  rw [List.getElem?_take, List.getElem?_drop]
theorem part_length {ls : List Int} {b L : Nat} (h : b + L ≤ ls.length) : (part14 ls b L).length = L := by simp [part14]; omega
theorem over_part {ls : List Int} {b L : Nat} (h : b + L ≤ ls.length) : over ls b (part14 ls b L) = ls := by
  apply List.ext_getElem?
  intro i
  have hl := part_length h
  rw [over_at (by omega), hl, part_at]
  by_cases h1 : i < b
  · rw [if_pos h1]
  · rw [if_neg h1]
    by_cases h2 : i < b + L
    · rw [if_pos h2, if_pos (by omega), show b + (i - b) = i by omega]
    · rw [if_neg h2]
theorem part_over {ls s : List Int} {b c L : Nat} (h : b + s.length ≤ ls.length) (hd : c + L ≤ b ∨ b + s.length ≤ c) : part14 (over ls b s) c L = part14 ls c L := by
  apply List.ext_getElem?
  intro i
  rw [part_at, part_at]
  by_cases hi : i < L
  · rw [if_pos hi, if_pos hi, over_at h]
    by_cases h1 : c + i < b
    · rw [if_pos h1]
    · rw [if_neg h1, if_neg (by omega)]
  · rw [if_neg hi, if_neg hi]
theorem over_comm {ls s t : List Int} {b c : Nat} (h : b + s.length ≤ ls.length) (h' : c + t.length ≤ ls.length) (hd : c + t.length ≤ b ∨ b + s.length ≤ c) : over (over ls b s) c t = over (over ls c t) b s := by
  apply List.ext_getElem?
  intro i
  have l1 := over_len h
  have l2 := over_len h'
  rw [over_at (by omega), over_at h, over_at (by omega), over_at h']
  by_cases h1 : i < b
  · by_cases h2 : i < c
    · simp [h1, h2]
    · by_cases h3 : i < c + t.length
      · simp [h1, h2, h3]
      · simp [h1, h2, h3]
  · by_cases h2 : i < c
    · by_cases h4 : i < b + s.length
      · simp [h1, h2, h4]
      · simp [h1, h2, h4]
    · by_cases h3 : i < c + t.length
      · have h4 : ¬ i < b + s.length := by omega
        simp [h1, h2, h3, h4]
      · by_cases h4 : i < b + s.length
        · simp [h1, h2, h3, h4]
        · simp [h1, h2, h3, h4]

theorem over_cons14 {ls : List Int} {b : Nat} {x : Int} {zs : List Int} (h : b < ls.length) : over (ls.set b x) (b + 1) zs = over ls b (x :: zs) := by
  have e1 : (ls.set b x).take (b + 1) = ls.take b ++ [x] := by
    rw [List.take_add_one, List.getElem?_set_self (by omega)]
    congr 1
    apply List.ext_getElem?
    intro m
    rw [List.getElem?_take, List.getElem?_take]
    by_cases hm : m < b
    · rw [if_pos hm, if_pos hm, List.getElem?_set_ne (by omega)]
    · rw [if_neg hm, if_neg hm]
  have e2 : (ls.set b x).drop (b + 1 + zs.length) = ls.drop (b + (zs.length + 1)) := by
    apply List.ext_getElem?
    intro m
    rw [List.getElem?_drop, List.getElem?_drop, List.getElem?_set_ne (by omega)]
    congr 1
    omega
  unfold over
  rw [e1, e2, List.append_assoc]
  rfl
/-- What a command makes of its own blocks. -/
def seg14 (o k : Int) (zs s : List Int) : List Int × Int × List Int :=
  if o = 1 then (s, 0, s)
  else if o = 2 ∨ o = 3 then (zs, 0, [])
  else if o = 6 then (List.replicate k.toNat 0, 0, [])
  else (if s.getD 0 0 = zs.getD 0 0 then ([zs.getD 1 0], 0, []) else (s, 4, []))
theorem set_over {ls : List Int} {b : Nat} {x : Int} (h : b < ls.length) : ls.set b x = over ls b [x] := by
  have := over_cons14 (x := x) (zs := []) h
  rw [over_nil] at this
  exact this
theorem deed_seg {gn gs o d b k : Int} {zs ls : List Int} (hc : codeC gn gs o d b k zs = 0) (h4 : ¬ o = 4) (hl : (ls.length : Int) = blocksN gn gs) {B L : Nat} (hb : b = B) (hL : lenC o k zs = L) :
    B + L ≤ ls.length ∧ (seg14 o k zs (part14 ls B L)).1.length = L ∧ deedC ls o b k zs = (over ls B (seg14 o k zs (part14 ls B L)).1, (seg14 o k zs (part14 ls B L)).2) := by
  obtain ⟨r0, r1, r2, r3⟩ := code_room hc h4
  have ho := code_op hc
  subst hb
  have e1 : ((B : Int)).toNat = B := by omega
  have hfit : B + L ≤ ls.length := by omega
  have hpl := part_length hfit
  refine ⟨hfit, ?_⟩
  by_cases o1 : o = 1
  · subst o1
    rw [len1 (.inl rfl)] at hL
    have hs : seg14 1 k zs (part14 ls B L) = (part14 ls B L, 0, part14 ls B L) := by unfold seg14; rw [if_pos rfl]
    rw [hs, deed_read, e1]
    refine ⟨hpl, ?_⟩
    rw [over_part hfit]
    rw [hL]
    rfl
  · by_cases o2 : o = 2 ∨ o = 3
    · rw [len2 o2] at hL
      have hs : seg14 o k zs (part14 ls B L) = (zs, 0, []) := by unfold seg14; rw [if_neg o1, if_pos o2]
      rw [hs, deed_write o2, e1]
      exact ⟨by show zs.length = L; omega, rfl⟩
    · by_cases o6 : o = 6
      · subst o6
        rw [len1 (.inr rfl)] at hL
        have hs : seg14 6 k zs (part14 ls B L) = (List.replicate k.toNat 0, 0, []) := by unfold seg14; rw [if_neg (by omega), if_neg (by omega), if_pos rfl]
        rw [hs, deed_zero, e1]
        exact ⟨by show (List.replicate k.toNat (0 : Int)).length = L; rw [List.length_replicate]; omega, rfl⟩
      · obtain rfl : o = 5 := by omega
        rw [len5] at hL
        obtain rfl : L = 1 := by omega
        have hg : (part14 ls B 1).getD 0 0 = ls.getD B 0 := by
          rw [List.getD_eq_getElem?_getD, List.getD_eq_getElem?_getD, part_at, if_pos (by omega), Nat.add_zero]
        by_cases hh : ls.getD B 0 = zs.getD 0 0
        · have hs : seg14 5 k zs (part14 ls B 1) = ([zs.getD 1 0], 0, []) := by unfold seg14; rw [if_neg (by omega), if_neg (by omega), if_neg (by omega), hg, if_pos hh]
          rw [hs, deed_hit (by rw [e1]; exact hh), e1]
          exact ⟨rfl, by rw [set_over (by omega)]⟩
        · have hs : seg14 5 k zs (part14 ls B 1) = (part14 ls B 1, 4, []) := by unfold seg14; rw [if_neg (by omega), if_neg (by omega), if_neg (by omega), hg, if_neg hh]
          rw [hs, deed_miss (by rw [e1]; exact hh)]
          exact ⟨hpl, by rw [over_part hfit]⟩

/-- Two right commands that do not meet may change their places. -/
theorem do1_comm {gn gs o d b k o2 d2 b2 k2 : Int} {zs zs2 ls : List Int} (hg : geoB gn gs = true) (h1 : codeC gn gs o d b k zs = 0) (h2 : codeC gn gs o2 d2 b2 k2 zs2 = 0) (hl : (ls.length : Int) = blocksN gn gs) (hm : metC (spanC gn gs o d b k zs) (spanC gn gs o2 d2 b2 k2 zs2) = false) :
    (do1 gn gs (do1 gn gs ls (o, d, b, k, zs)).1 (o2, d2, b2, k2, zs2)).1 = (do1 gn gs (do1 gn gs ls (o2, d2, b2, k2, zs2)).1 (o, d, b, k, zs)).1 ∧
      (do1 gn gs (do1 gn gs ls (o, d, b, k, zs)).1 (o2, d2, b2, k2, zs2)).2 = (do1 gn gs ls (o2, d2, b2, k2, zs2)).2 ∧ (do1 gn gs (do1 gn gs ls (o2, d2, b2, k2, zs2)).1 (o, d, b, k, zs)).2 = (do1 gn gs ls (o, d, b, k, zs)).2 := by
  have hN : 2 ≤ blocksN gn gs := by rw [blocksN_of hg]; exact (geoB_blocks hg).1
  have n1 : ¬ o = 4 := by
    intro e
    subst e
    rw [span_flush h1] at hm
    by_cases e2 : o2 = 4
    · subst e2
      rw [span_flush h2] at hm
      unfold metC at hm
      simp at hm
      omega
    · obtain ⟨r0, r1, r2, r3⟩ := code_room h2 e2
      rw [span_own h2 e2] at hm
      unfold metC at hm
      simp at hm
      omega
  obtain ⟨r0, r1, r2, r3⟩ := code_room h1 n1
  have n2 : ¬ o2 = 4 := by
    intro e
    subst e
    rw [span_flush h2, span_own h1 n1] at hm
    unfold metC at hm
    simp at hm
    omega
  obtain ⟨q0, q1, q2, q3⟩ := code_room h2 n2
  rw [span_own h1 n1, span_own h2 n2] at hm
  obtain ⟨B, hB⟩ : ∃ B : Nat, b = B := ⟨b.toNat, by omega⟩
  obtain ⟨L, hL⟩ : ∃ L : Nat, lenC o k zs = L := ⟨(lenC o k zs).toNat, by omega⟩
  obtain ⟨B2, hB2⟩ : ∃ B : Nat, b2 = B := ⟨b2.toNat, by omega⟩
  obtain ⟨L2, hL2⟩ : ∃ L : Nat, lenC o2 k2 zs2 = L := ⟨(lenC o2 k2 zs2).toNat, by omega⟩
  have hd : B2 + L2 ≤ B ∨ B + L ≤ B2 := by
    unfold metC at hm
    simp at hm
    omega
  have hx : ∀ ls : List Int, (ls.length : Int) = blocksN gn gs → do1 gn gs ls (o, d, b, k, zs) = (over ls B (seg14 o k zs (part14 ls B L)).1, d, (seg14 o k zs (part14 ls B L)).2) := fun ls hl => by
    have := (deed_seg h1 n1 hl hB hL).2.2
    unfold do1
    simp only
    rw [doC_do (by rw [deny_code hl]; exact h1), this]
  have hy : ∀ ls : List Int, (ls.length : Int) = blocksN gn gs → do1 gn gs ls (o2, d2, b2, k2, zs2) = (over ls B2 (seg14 o2 k2 zs2 (part14 ls B2 L2)).1, d2, (seg14 o2 k2 zs2 (part14 ls B2 L2)).2) := fun ls hl => by
    have := (deed_seg h2 n2 hl hB2 hL2).2.2
    unfold do1
    simp only
    rw [doC_do (by rw [deny_code hl]; exact h2), this]
  obtain ⟨f1, s1, _⟩ := deed_seg h1 n1 hl hB hL
  obtain ⟨f2, s2, _⟩ := deed_seg h2 n2 hl hB2 hL2
  have l1 : ((over ls B (seg14 o k zs (part14 ls B L)).1).length : Int) = blocksN gn gs := by rw [over_len (by omega)]; exact hl
  have l2 : ((over ls B2 (seg14 o2 k2 zs2 (part14 ls B2 L2)).1).length : Int) = blocksN gn gs := by rw [over_len (by omega)]; exact hl
  rw [hx ls hl, hy ls hl, hx _ l2, hy _ l1]
  rw [part_over (by omega) (by omega), part_over (by omega) (by omega)]
  exact ⟨over_comm (by omega) (by omega) (by omega), rfl, rfl⟩

end Go.Proofs.Ytgjomldcnjjpaaa

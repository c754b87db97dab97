/-
  What is read of a disk that was written to, and of it flushed. No condition; nothing of the program is named here.
-/
import Derived.Test.YtmkiljflkndmoaaMemWts
import Derived.Test.YtmkiljflkndmoaaWalkSameMem
import Derived.Test.YtmkiljflkndmoaaMemKeeps
namespace Go.Proofs.Ytmkiljflkndmoaa
open Go.RowKit

theorem wrOk_parts {ss : List (List Int)} {cs : List (Int × List Int)} {f : Bool} {bs : List Int} {n : Int} {sw : List Int} (h : wrOk ss cs f bs n sw = true) : memB ss cs bs = true ∧ f = false ∧ 0 ≤ n ∧ n < ss.length ∧ secB sw = true := by
  unfold wrOk at h
  simp only [Bool.and_eq_true, Bool.not_eq_true', decide_eq_true_eq] at h
  obtain ⟨h1, h2, h3, h4, _⟩ := h
  unfold inB at h3
  simp at h3
  exact ⟨h1, h2, h3.1, by omega, h4⟩

theorem inL_filt (bs : List Int) (n i : Int) : inL (filt bs n) i = (inL bs i && decide (i ≠ n)) := by
  unfold inL filt
  rw [Bool.eq_iff_iff]
  simp only [List.any_eq_true, List.mem_filter, decide_eq_true_eq, Bool.and_eq_true]
  constructor
  · rintro ⟨x, ⟨h1, h2⟩, rfl⟩
    exact ⟨⟨x, h1, rfl⟩, h2⟩
  · rintro ⟨⟨x, h1, rfl⟩, h2⟩
    exact ⟨x, ⟨h1, h2⟩, rfl⟩

theorem read_other {ss : List (List Int)} {cs : List (Int × List Int)} {f : Bool} {bs : List Int} {n i : Int} {sw : List Int} (h : wrOk ss cs f bs n sw = true) (hi : i ≠ n) :
    readOk ss (cs ++ [(n, sw)]) f (filt bs n) i = readOk ss cs f bs i ∧ readD ss (cs ++ [(n, sw)]) f (filt bs n) i = readD ss cs f bs i := by
  have h1 := memB_write h
  have h2 := (wrOk_parts h).1
  have e1 : readOk ss (cs ++ [(n, sw)]) f (filt bs n) i = readOk ss cs f bs i := by
    unfold readOk
    rw [h1, h2, inL_filt]
    simp [hi]
  refine ⟨e1, ?_⟩
  have e2 : lastW (cs ++ [(n, sw)]) i = lastW cs i := by
    rw [lastW_snoc]
    exact if_neg (fun e => hi e.symm)
  unfold readD
  rw [e1, e2]

theorem read_self {ss : List (List Int)} {cs : List (Int × List Int)} {f : Bool} {bs : List Int} {n : Int} {sw : List Int} (h : wrOk ss cs f bs n sw = true) :
    readOk ss (cs ++ [(n, sw)]) f (filt bs n) n = true ∧ readD ss (cs ++ [(n, sw)]) f (filt bs n) n = sw := by
  have h1 := memB_write h
  obtain ⟨_, h3, h4, h5, _⟩ := wrOk_parts h
  have e1 : readOk ss (cs ++ [(n, sw)]) f (filt bs n) n = true := by
    unfold readOk inB
    rw [h1, h3, inL_filt]
    simp
    omega
  refine ⟨e1, ?_⟩
  unfold readD
  rw [if_pos e1, lastW_snoc, if_pos rfl]
  rfl

theorem read_flush {ss : List (List Int)} {cs : List (Int × List Int)} {bs : List Int} (h : memB ss cs bs = true) (i : Nat) (hi : i < ss.length) :
    readOk (flushD ss cs) [] false bs i = readOk ss cs false bs i ∧ readD (flushD ss cs) [] false bs i = readD ss cs false bs i := by
  have h1 := memB_flush h cs (fun _ hx => hx)
  have e1 : readOk (flushD ss cs) [] false bs i = readOk ss cs false bs i := by
    unfold readOk
    rw [h1, h, flushD_length]
  refine ⟨e1, ?_⟩
  unfold readD
  rw [e1]
  have e2 : secAt (flushD ss cs) (i : Int) = (lastW cs (i : Int)).getD (secAt ss (i : Int)) := by
    unfold secAt
    simp only [Int.toNat_natCast, List.getD_eq_getElem?_getD]
    rw [flushD_get hi]
    simp [List.getD_eq_getElem?_getD]
  rw [show lastW [] (i : Int) = none from rfl, Option.getD_none, e2]

theorem flush_at {ss : List (List Int)} {cs : List (Int × List Int)} {n : Nat} {sw : List Int} (hi : n < ss.length) : (flushD ss (cs ++ [((n : Int), sw)]))[n]? = some sw := by
  rw [flushD_get hi, lastW_snoc, if_pos rfl]
  rfl

theorem bs_le {ss : List (List Int)} {cs : List (Int × List Int)} {f : Bool} {bs : List Int} {N : Nat} (h : wtMem (ss, cs, f, bs) ≤ N) : bs.length ≤ N := by
  unfold wtMem at h
  dsimp only at h
  omega
theorem ss_le {ss : List (List Int)} {cs : List (Int × List Int)} {f : Bool} {bs : List Int} {N : Nat} (h : wtMem (ss, cs, f, bs) ≤ N) : ss.length ≤ N := by
  unfold wtMem wtIntSS at h
  dsimp only at h
  omega
theorem flush_wt {ss : List (List Int)} {cs : List (Int × List Int)} {bs : List Int} (h : memB ss cs bs = true) (hb : bs.length ≤ 1048576) : wtMem (flushD ss cs, [], false, bs) ≤ 2097152 := by
  have h1 := mem_small h
  have h2 := flushD_wt (mem_secs h) h1.1 h1.2
  have h6 : wtWrS [] = 0 := rfl
  unfold wtMem
  dsimp only
  omega
theorem filt_le (bs : List Int) (n : Int) : (filt bs n).length ≤ bs.length := List.length_filter_le _ _

end Go.Proofs.Ytmkiljflkndmoaa

/-
  The walk of the specification's l8Set: a block that is there is set. Conditions: the array is right, and there is such a block; it weighs at most 2097152, with at most 500000 entries.
-/
import Derived.Test.YtialakmmifhliaaGreatWalk8b
import Derived.Test.YtialakmmifhliaaGreatWalk8c
import Derived.Test.YtialakmmifhliaaGreatWalkGeoSpec
import Derived.Test.YtialakmmifhliaaGreatStore
namespace Go.Proofs.YtialakmmifhliaaGreat
open Go.RowKit

/-- What SetBlock makes of the entries: where the stripe cannot be read, nothing. -/
def setB8 (x : ArrN) (ms : List MemD) (ds : List EntD) (b n : Int) : List EntD := if ok8 x ms ds (stripeN x.n x.s b) = true then put8 ds (stripeN x.n x.s b, (dat8 x ms ds (stripeN x.n x.s b)).set (indexN x.n x.s b).toNat n) else ds
def set8C (x : ArrN) (ms : List MemD) (ds : List EntD) (b : Int) : Int := if ok8 x ms ds (stripeN x.n x.s b) = true then 0 else 5
theorem block_in {n s b : Int} (hg : geoB n s = true) (hb : blockB n s b = true) : 0 ≤ stripeN n s b ∧ stripeN n s b ≤ s - 1 ∧ 0 ≤ indexN n s b ∧ indexN n s b < n - 1 := by
  obtain ⟨g1, g2, g3, g4⟩ := geoB_iff.1 hg
  have hb2 := hb
  unfold blockB blocksN at hb2
  rw [if_pos hg] at hb2
  have h3 := inB_iff.1 hb2
  unfold stripeN indexN
  rw [if_pos hb, if_pos hb]
  have h1 := Int.emod_nonneg b (show n - 1 ≠ 0 by omega)
  have h2 := Int.emod_lt_of_pos b (show (0 : Int) < n - 1 by omega)
  have h5 : b / (n - 1) < s := Int.ediv_lt_of_lt_mul (by omega) (by omega)
  have h4 : 0 ≤ b / (n - 1) := Int.ediv_nonneg h3.1 (by omega)
  exact ⟨h4, by omega, h1, h2⟩
theorem dat8_len {x : ArrN} {ms : List MemD} {ds : List EntD} {s : Int} (ha : arrB x ms ds = true) (hk : ok8 x ms ds s = true) : ((dat8 x ms ds s).length : Int) = x.n - 1 := by
  unfold arrB entsB at ha
  simp only [Bool.and_eq_true] at ha
  obtain ⟨hg, _, _, he, _⟩ := ha
  obtain ⟨g1, g2, _⟩ := geoB_iff.1 hg
  rcases at8_cases ds s with hat | ⟨j, d, hat, hdj, _⟩
  · unfold ok8 at hk
    rw [if_pos hat] at hk
    simp only [Bool.and_eq_true, Bool.not_eq_true'] at hk
    unfold dat8 data6
    rw [if_pos hat, if_neg (by simp [hk.1]), if_pos hk.2, pickL_len]
    omega
  · have h1 := allIx_iff.1 he j d hdj
    unfold entAt at h1
    simp only [Bool.and_eq_true, decide_eq_true_eq] at h1
    unfold dat8
    rw [if_neg (by omega), hat, Int.toNat_natCast, List.getD_eq_getElem?_getD, hdj]
    exact h1.2.1

end Go.Proofs.YtialakmmifhliaaGreat

/-
  The exact law of Durable holds: for every array the law returns true. No condition.
-/
import Derived.Test.YtfimpohbpccjaaaWalkGeo
import Derived.Test.YtfimpohbpccjaaaHeld
import Derived.Test.YtfimpohbpccjaaaWalkImplArrOk
import Derived.Test.YtfimpohbpccjaaaWalkWordOn
import Derived.Test.YtfimpohbpccjaaaWalkWords2
import Derived.Test.YtfimpohbpccjaaaWalkWords3
import Derived.Test.YtfimpohbpccjaaaDur10
import Derived.Test.YtfimpohbpccjaaaWalkDurS
import Derived.Test.YtfimpohbpccjaaaWalkMarkArr
import Derived.Test.YtfimpohbpccjaaaSmall6
import Derived.Test.YtfimpohbpccjaaaWalkArr
import Derived.Test.YtfimpohbpccjaaaWalkSz
import Derived.ProofKit
import Derived.OpenShut
import Derived.Lib.SmallJoins
import Derived.Deep.Slices
import Derived.Deep.SlicePairs
import Derived.Test.YtfimpohbpccjaaaRows
import Derived.WalkKit
import Derived.ShutString
import Derived.ChangeOld
import Derived.Below

/-
  The walks of both Blocks and of what tells a stripe (the program's and the specification's). No condition.
-/
namespace Go.Proofs.Ytfimpohbpccjaaa
open Go.RowKit

theorem perStripe_any (w : World) (n s : Int) (h1 : 3 ≤ n) (h2 : n ≤ 5) : Calls Try.prog 46 #[.agg #[.int .i64 n, .int .i64 s]] w fun e w' => e = .returned (.int .i64 (n - 1)) ∧ Below w.heap.size w w' := by
  have hA := new_below w (.cells #[.int .i64 n, .int .i64 s] 30)
  obtain ⟨k0, k1⟩ := (Gbox.new w 30 n s).cells
  go_enter Try.func46, Try.ntmps46
  go_wp2
  go_ret
  exact ⟨ret_int (by first | rfl | omega), hA⟩

set_option maxHeartbeats 800000 in
theorem implBlocks_any (w : World) (n s : Int) : Calls Try.prog 93 #[.agg #[.int .i64 n, .int .i64 s]] w fun e w' => e = .returned (.int .i64 (blocksN n s)) ∧ Below w.heap.size w w' := by
  have hA := new_below w (.cells #[.int .i64 n, .int .i64 s] 30)
  have X := Gbox.new w 30 n s
  obtain ⟨k0, k1⟩ := X.cells
  have zA := X.lt
  go_enter Try.func93, Try.ntmps93
  go_wp2_with fail
  refine (implGeoOk_any _ _ _).mono ?_
  rintro e w1 ⟨rfl, b1⟩
  have X1 := X.below b1 zA
  have z1 := X1.lt
  obtain ⟨p0, p1⟩ := X1.cells
  have B1 := Below.andThen hA b1
  clear k0 k1 X b1 hA zA
  by_cases hg : geoB n s = true
  · obtain ⟨h1, h2, h3, h4⟩ := geoB_iff.1 hg
    have hm := geoB_blocks hg
    have HB := hidden (blocksN_of hg)
    have gw : IntKind.i64.wrap (s * (n - 1)) = s * (n - 1) := IntWalk.i64_in _ (by omega)
    go_wp2_with fail
    go_region_held3 (fun w' => w'.cell? ⟨w.heap.size, 0, none⟩ = some (.int .i64 n) ∧ w'.cell? ⟨w.heap.size, 1, none⟩ = some (.int .i64 s))
      (first | (exact ⟨(b2.cell (p := ⟨w.heap.size, 0, none⟩) z1).trans p0, (b2.cell (p := ⟨w.heap.size, 1, none⟩) z1).trans p1⟩) | (exact ⟨p0, p1⟩) | go_keep)
      (first
        | (go_at_call 46; refine (perStripe_any _ _ _ h1 h2).mono ?_; rintro e w2 ⟨rfl, b2'⟩; have b2 : Below w1.heap.size w1 w2 := (by exact (Below.refl w1.heap.size w1).drew.trans b2')))
    go_wp2
    go_ret
    exact ⟨ret_int (by rw [HB.out]), Below.andThen B1 b2⟩
  · have hg : geoB n s = false := by simpa using hg
    go_wp2
    go_ret
    exact ⟨ret_int (blocksN_not hg).symm, B1⟩

theorem stripeB_of {n s t : Int} : stripeB n s t = true ↔ geoB n s = true ∧ 0 ≤ t ∧ t < s := by unfold stripeB; rw [Bool.and_eq_true, inB_iff]; constructor <;> (rintro ⟨a, b⟩; exact ⟨a, by omega⟩)
theorem stripeB_not {n s t : Int} : stripeB n s t = false ↔ ¬ (geoB n s = true ∧ 0 ≤ t ∧ t < s) := by rw [← stripeB_of]; simp

set_option maxHeartbeats 800000 in
theorem hasStripe_any (w : World) (n s t : Int) : Calls Try.prog 40 #[.agg #[.int .i64 n, .int .i64 s], .int .i64 t] w fun e w' => e = .returned (.bool (stripeB n s t)) ∧ Below w.heap.size w w' := by
  have hA := new_below w (.cells #[.int .i64 n, .int .i64 s] 30)
  have X := Gbox.new w 30 n s
  obtain ⟨k0, k1⟩ := X.cells
  have zA := X.lt
  go_enter Try.func40, Try.ntmps40
  go_wp2_with fail
  refine (implGeoOk_any _ _ _).mono ?_
  rintro e w1 ⟨rfl, b1⟩
  have X1 := X.below b1 zA
  obtain ⟨p0, p1⟩ := X1.cells
  have B1 := Below.andThen hA b1
  clear k0 k1 X b1 hA zA
  by_cases hg : geoB n s = true
  · by_cases h1 : 0 ≤ t
    · by_cases h2 : t < s
      · go_wp2
        go_ret
        exact ⟨ret_bool (by symm; rw [stripeB_of]; exact ⟨hg, h1, h2⟩), B1⟩
      · go_wp2
        go_ret
        exact ⟨ret_bool (by first | (exact (stripeB_not.2 (by omega)).symm) | (rw [stripeB_not.2 (by omega)]; simp; omega)), B1⟩
    · go_wp2
      go_ret
      exact ⟨ret_bool (by first | (exact (stripeB_not.2 (by omega)).symm) | (rw [stripeB_not.2 (by omega)]; simp; omega)), B1⟩
  · have hg : geoB n s = false := by simpa using hg
    go_wp2
    go_ret
    exact ⟨ret_bool (by symm; rw [stripeB_not]; simp [hg]), B1⟩

set_option maxHeartbeats 800000 in
theorem implParityOf_any (w : World) (n s t : Int) : Calls Try.prog 74 #[.agg #[.int .i64 n, .int .i64 s], .int .i64 t] w fun e w' => e = .returned (.int .i64 (parN n s t)) ∧ Below w.heap.size w w' := by
  have hA := new_below w (.cells #[.int .i64 n, .int .i64 s] 30)
  have X := Gbox.new w 30 n s
  obtain ⟨k0, k1⟩ := X.cells
  have zA := X.lt
  go_enter Try.func74, Try.ntmps74
  go_wp2_with fail
  refine (hasStripe_any _ _ _ _).mono ?_
  rintro e w1 ⟨rfl, b1⟩
  have X1 := X.below b1 zA
  obtain ⟨p0, p1⟩ := X1.cells
  have B1 := Below.andThen hA b1
  clear k0 k1 X b1 hA zA
  by_cases hg : stripeB n s t = true
  · obtain ⟨hg1, h1, h2⟩ := stripeB_of.1 hg
    obtain ⟨g1, g2, g3, g4⟩ := geoB_iff.1 hg1
    have hm1 : 0 ≤ t % n := Int.emod_nonneg _ (by omega)
    have hm2 : t % n < n := Int.emod_lt_of_pos _ (by omega)
    have HB : Hid (parN n s t = n - 1 - t % n) := by unfold Hid parN; rw [if_pos hg]
    go_wp2_with fail
    go_quiet (fail)
    go_wp2
    go_ret
    exact ⟨ret_int (by rw [HB.out]), Below.andSame B1 ((Same.refl _).drewN _)⟩
  · have hg' : stripeB n s t = false := by simpa using hg
    go_wp2
    go_ret
    exact ⟨ret_int (by unfold parN; rw [if_neg hg]), B1⟩

theorem blockB_of {n s b : Int} : blockB n s b = true ↔ 0 ≤ b ∧ b < blocksN n s := by unfold blockB; rw [inB_iff]; omega
theorem blockB_not {n s b : Int} : blockB n s b = false ↔ ¬ (0 ≤ b ∧ b < blocksN n s) := by rw [← blockB_of]; simp
theorem blockB_geo {n s b : Int} (h : blockB n s b = true) : geoB n s = true := by
  rw [blockB_of] at h
  by_cases hg : geoB n s = true
  · exact hg
  · rw [blocksN_not (by simpa using hg)] at h
    omega

set_option maxHeartbeats 1600000 in
theorem placeOf_any (w : World) (n s b : Int) : Calls Try.prog 94 #[.agg #[.int .i64 n, .int .i64 s], .int .i64 b] w fun e w' => e = .returned (.agg #[.int .i64 (stripeN n s b), .int .i64 (indexN n s b)]) ∧ Below w.heap.size w w' := by
  have hA : Below w.heap.size w ((w.alloc (.cells #[.int .i64 n, .int .i64 s] 30)).alloc (.cells #[.int .i64 0, .int .i64 0] 116)) := (new_below w _).alloc (by simp) _
  have X : Gbox ((w.alloc (.cells #[.int .i64 n, .int .i64 s] 30)).alloc (.cells #[.int .i64 0, .int .i64 0] 116)) w.heap.size 30 n s := (Gbox.new w 30 n s).below (new_below _ _) (by simp)
  have Y : Gbox ((w.alloc (.cells #[.int .i64 n, .int .i64 s] 30)).alloc (.cells #[.int .i64 0, .int .i64 0] 116)) (w.heap.size + 1) 116 0 0 := by
    have := Gbox.new (w.alloc (.cells #[.int .i64 n, .int .i64 s] 30)) 116 0 0
    simpa using this
  obtain ⟨k0, k1⟩ := X.cells
  obtain ⟨j0, j1⟩ := Y.cells
  have f0 := Y.frozen 0
  have f1 := Y.frozen 1
  go_enter Try.func94, Try.ntmps94
  by_cases h0 : 0 ≤ b
  · go_wp2_with fail
    refine (implBlocks_any _ _ _).mono ?_
    rintro e w1 ⟨rfl, b1⟩
    have hz : w.heap.size + 1 < ((w.alloc (.cells #[.int .i64 n, .int .i64 s] 30)).alloc (.cells #[.int .i64 0, .int .i64 0] 116)).heap.size := by simp
    have X1 := X.below b1 (by omega)
    have Y1 := Y.below b1 hz
    have B1 := hA.trans (b1.mono hA.size)
    have hr := blocksN_range n s
    clear k0 k1 j0 j1 f0 f1 X Y hA b1 hz
    obtain ⟨k0, k1⟩ := X1.cells
    obtain ⟨j0, j1⟩ := Y1.cells
    have f0 := Y1.frozen 0
    have f1 := Y1.frozen 1
    have z1 := Y1.lt
    by_cases h1 : b < blocksN n s
    · have hb := blockB_of.2 ⟨h0, h1⟩
      obtain ⟨g1, g2, g3, g4⟩ := geoB_iff.1 (blockB_geo hb)
      have HS : Hid (stripeN n s b = b / (n - 1)) := by unfold Hid stripeN; rw [if_pos hb]
      have HI : Hid (indexN n s b = b % (n - 1)) := by unfold Hid indexN; rw [if_pos hb]
      have d1 : 0 ≤ b / (n - 1) := Int.ediv_nonneg (by omega) (by omega)
      have d2 : b / (n - 1) ≤ b := Int.ediv_le_self _ (by omega)
      have d3 : 0 ≤ b % (n - 1) := Int.emod_nonneg _ (by omega)
      have d4 : b % (n - 1) < n - 1 := Int.emod_lt_of_pos _ (by omega)
      have e1 : ¬ n - 1 = 0 := by omega
      have e3 : b.tmod (n - 1) = b % (n - 1) := Int.tmod_eq_emod_of_nonneg h0
      have e2 : IntKind.i64.wrap (b.tdiv (n - 1)) = b / (n - 1) := by rw [Int.tdiv_eq_ediv_of_nonneg h0]; exact IntWalk.i64_in _ (by omega)
      go_wp2_with fail
      go_region_held3 (fun w' => w'.cell? ⟨w.heap.size, 0, none⟩ = some (.int .i64 n) ∧ w'.cell? ⟨w.heap.size, 1, none⟩ = some (.int .i64 s))
        (first | (exact X3.cells) | (exact X2.cells) | (exact X1.cells) | go_keep)
        (first
          | (go_at_call 46; refine (perStripe_any _ _ _ g1 g2).mono ?_; rintro e w3 ⟨rfl, b3⟩; have B3 := Below.andThen B2 b3; have X3 := X2.below b3 X2.lt; have Y3 := Y2.below b3 Y2.lt; obtain ⟨k0, k1⟩ := X3.cells; obtain ⟨j0, j1⟩ := Y3.cells; have f0 := Y3.frozen 0; have f1 := Y3.frozen 1)
          | (go_at_call 46; refine (perStripe_any _ _ _ g1 g2).mono ?_; rintro e w2 ⟨rfl, b2⟩; have B2 := Below.andThen B1.drew b2; have X2 := X1.drew.below b2 X1.lt; have Y2 := Y1.drew.below b2 Y1.lt; obtain ⟨k0, k1⟩ := X2.cells))
      have Z := Y3.set2 (b / (n - 1)) (b % (n - 1))
      have BZ := (B3.setCell (p := ⟨w.heap.size + 1, 0, none⟩) (by simp) (.int .i64 (b / (n - 1)))).setCell (p := ⟨w.heap.size + 1, 1, none⟩) (by simp) (.int .i64 (b % (n - 1)))
      generalize ((w3.setCell ⟨w.heap.size + 1, 0, none⟩ (.int .i64 (b / (n - 1)))).setCell ⟨w.heap.size + 1, 1, none⟩ (.int .i64 (b % (n - 1)))) = w4 at Z BZ ⊢
      obtain ⟨q0, q1⟩ := Z.cells
      go_wp2
      refine bodyPost_ret (v := .agg #[.int .i64 (b / (n - 1)), .int .i64 (b % (n - 1))]) (by simp [results, Try.results94, go_sem, q0, q1]) rfl ?_
      exact ⟨by rw [HS.out, HI.out], BZ⟩
    · have HN : blockB n s b = false := blockB_not.2 (fun h => h1 h.2)
      have Z := Y1.set2 (-1) (-1)
      have BZ := (B1.setCell (p := ⟨w.heap.size + 1, 0, none⟩) (by simp) (.int .i64 (-1))).setCell (p := ⟨w.heap.size + 1, 1, none⟩) (by simp) (.int .i64 (-1))
      obtain ⟨q0, q1⟩ := Z.cells
      go_wp2
      refine bodyPost_ret (v := .agg #[.int .i64 (-1), .int .i64 (-1)]) (by simp [results, Try.results94, go_sem, q0, q1]) rfl ?_
      exact ⟨by unfold stripeN indexN; rw [HN]; rfl, BZ⟩
  · have HN : blockB n s b = false := blockB_not.2 (fun h => h0 h.1)
    clear j0 j1 k0 k1 f0 f1
    go_wp2
    refine bodyPost_ret (v := .agg #[.int .i64 (-1), .int .i64 (-1)]) (by simp [results, Try.results94, go_sem]) rfl ?_
    exact ⟨by unfold stripeN indexN; rw [HN]; rfl, (new_below w _).alloc (by simp) _⟩

end Go.Proofs.Ytfimpohbpccjaaa

/-
  The walks of the program's looks at an array's entries, at its records, and at the array as a whole. Condition: it weighs at most 2097152.
-/
namespace Go.Proofs.Ytfimpohbpccjaaa
open Go.RowKit

set_option linter.unusedSimpArgs false in
set_option maxRecDepth 20000 in
set_option maxHeartbeats 3200000 in
theorem dirtyOk_any (w : World) (G : TypeId) (x : ArrN) (am ad : Option Addr) (nm cm nd cd : Nat) (ds : List (Int × List Int)) (h0 : (tWrS G).Rd w [.slice ad nd cd] ds) (hw : wtWrS ds ≤ 2097152) (hg : geoB x.n x.s = true) :
    Calls Try.prog 67 #[.agg #[.int .i64 x.id, .int .i64 x.n, .int .i64 x.s, .slice am nm cm, .int .i64 x.lost, .int .i64 x.built, .int .i64 x.seq, .int .i64 x.tail, .int .i64 x.gen, .slice ad nd cd, .int .i64 x.fuse, .bool x.down, .bool x.broken]] w fun e w' => e = .returned (.bool (entsB x ds)) ∧ Below w.heap.size w w' := by
  obtain ⟨hl, hc, hm⟩ := row_length h0
  obtain ⟨g1, g2, g3, g4⟩ := geoB_iff.1 hg
  have hA := new_below w (.cells #[.int .i64 x.id, .int .i64 x.n, .int .i64 x.s, .slice am nm cm, .int .i64 x.lost, .int .i64 x.built, .int .i64 x.seq, .int .i64 x.tail, .int .i64 x.gen, .slice ad nd cd, .int .i64 x.fuse, .bool x.down, .bool x.broken] 34)
  have X := Box.new w 34 #[.int .i64 x.id, .int .i64 x.n, .int .i64 x.s, .slice am nm cm, .int .i64 x.lost, .int .i64 x.built, .int .i64 x.seq, .int .i64 x.tail, .int .i64 x.gen, .slice ad nd cd, .int .i64 x.fuse, .bool x.down, .bool x.broken]
  have zA := X.lt
  have hnd : nd ≤ 2097152 := by unfold wtWrS at hw; omega
  have h1 := h0.below hA
  obtain ⟨k0, k1, k2, k3, k4, k5, k6, k7, k8, k9, k10, k11, k12⟩ := X.cells13
  go_enter Try.func67, Try.ntmps67
  go_wp2
  generalize w.alloc (.cells #[.int .i64 x.id, .int .i64 x.n, .int .i64 x.s, .slice am nm cm, .int .i64 x.lost, .int .i64 x.built, .int .i64 x.seq, .int .i64 x.tail, .int .i64 x.gen, .slice ad nd cd, .int .i64 x.fuse, .bool x.down, .bool x.broken] 34) = W at hA X zA h1 k0 k1 k2 k3 k4 k5 k6 k7 k8 k9 k10 k11 k12 ⊢
  clear k0 k1 k2 k3 k4 k5 k6 k7 k8 k9 k10 k11 k12
  go_loopw [8] (fun i wr => ∃ j : Nat, j ≤ nd ∧ i = .int .i64 j ∧ (∀ (q : Nat) (d : Int × List Int), q < j → ds[q]? = some d → entAt x ds q d = true) ∧ Below W.heap.size W wr) (fun i _ => nd - (intOf i).toNat)
  case atStart => exact ⟨0, Nat.zero_le _, rfl, fun q d hq => by omega, Below.refl _ _⟩
  case round =>
    obtain ⟨j, hj, rfl, hall, hb⟩ := hrel
    have Xr := X.below hb zA
    by_cases hjn : j < nd
    · rcases pairs_at rfl h1 with h0' | ⟨b, off, rfl, hbl, hcs⟩
      · omega
      have hdj : ds[j]? = some (ds[j]'(by omega)) := List.getElem?_eq_getElem (by omega)
      generalize ds[j]'(by omega) = d at hdj
      obtain ⟨v0, v1, hv0, hv1, hrv⟩ := hcs j d hdj
      obtain ⟨rfl, hrw⟩ := wr_rd hrv
      obtain ⟨av, cv, rfl⟩ := row_shape hrw
      obtain ⟨y, zs⟩ := d
      simp only at hv0 hv1 hrw hrv
      have u0 := (hb.cell (p := ⟨b, off + j * 2, none⟩) hbl).trans hv0
      have u1 := (hb.cell (p := ⟨b, off + j * 2 + 1, none⟩) hbl).trans hv1
      have i1 : (0 : Int) ≤ (j : Int) := by omega
      have i2 : (j : Int) < (nd : Int) := by omega
      have hwz : zs.length ≤ 2097152 := Nat.le_trans (inner_le' hdj) hw
      have HDJ := hidden hdj
      have b1 := new_below wr (.cells #[.int .i64 y, .slice av zs.length cv] 83)
      have Y1 := Box.new wr 83 #[.int .i64 y, .slice av zs.length cv]
      have X1 := Xr.below b1 Xr.lt
      have RZ := (hrw.below hb).below b1
      have B1 := hb.trans (b1.mono hb.size)
      obtain ⟨y0, y1⟩ := Y1.cells2
      obtain ⟨e0, e1, e2, e3, e4, e5, e6, e7, e8, e9, e10, e11, e12⟩ := X1.cells13
      have zy := Y1.lt
      have zx := X1.lt
      have zb : b < (wr.alloc (.cells #[.int .i64 y, .slice av zs.length cv] 83)).heap.size := Nat.lt_of_lt_of_le hbl B1.size
      have hq : ∀ (p : Nat) (q : Int × List Int), ds[p]? = some q → (wr.alloc (.cells #[.int .i64 y, .slice av zs.length cv] 83)).cell? ⟨b, off + p * 2, none⟩ = some (.int .i64 q.1) := fun p q hpq => by
        obtain ⟨c0, c1, hc0, hc1, hrc⟩ := hcs p q hpq
        obtain ⟨rfl, _⟩ := wr_rd hrc
        exact (B1.cell (p := ⟨b, off + p * 2, none⟩) hbl).trans hc0
      have HQ := hidden hq
      clear hcs hv0 hv1 hrv hrw hdj hq b1 e0 e3 e4 e5 e6 e7 e8 e10 e11 e12
      cases hI : stripeB x.n x.s y
      · skip
        go_wp2_with fail
        generalize wr.alloc (.cells #[.int .i64 y, .slice av zs.length cv] 83) = w1 at X1 Y1 RZ B1 y0 y1 e1 e2 e9 zy zx zb HQ  ⊢
        refine wp_region_held_drew (S := fun w' => w'.cell? ⟨wr.heap.size, 0, none⟩ = some (.int .i64 y) ∧ w'.cell? ⟨w.heap.size, 1, none⟩ = some (.int .i64 x.n) ∧ w'.cell? ⟨w.heap.size, 2, none⟩ = some (.int .i64 x.s) ∧ w'.cell? ⟨w.heap.size, 9, none⟩ = some (.slice (some ⟨b, off, none⟩) nd cd)) (by kernel_rfl) ?_ (fun hHeld => ?_)
        · exact ⟨y0, e1, e2, e9⟩
        refine held_t 0 hHeld ?_
        refine held_t 1 hHeld ?_
        refine held_t 2 hHeld ?_
        refine held_t 3 hHeld ?_
        refine held_one (i := 4) (by kernel_rfl) rfl (by kernel_rfl) (fun K hK => ?_)
        go_simp
        refine (hasStripe_any _ x.n x.s y).mono ?_
        rintro e w2 ⟨rfl, b2⟩
        have b2' : Below w1.heap.size w1 w2 := (Below.refl w1.heap.size w1).drew.trans b2
        clear b2
        rw [hI]
        go_wp2_with fail
        clear hHeld
        refine hK.out _ _ ?_ (fun hHeld => ?_)
        · exact ⟨(b2'.cell (p := ⟨wr.heap.size, 0, none⟩) zy).trans y0, (b2'.cell (p := ⟨w.heap.size, 1, none⟩) zx).trans e1, (b2'.cell (p := ⟨w.heap.size, 2, none⟩) zx).trans e2, (b2'.cell (p := ⟨w.heap.size, 9, none⟩) zx).trans e9⟩
        clear hK K
        refine held_t 5 hHeld ?_
        refine held_t 6 hHeld ?_
        refine held_p 7 hHeld ?_
        refine held_p 8 hHeld ?_
        refine held_p 9 hHeld ?_
        refine held_p 10 hHeld ?_
        refine held_p 11 hHeld ?_
        refine held_p 12 hHeld ?_
        refine held_p 13 hHeld ?_
        refine held_p 14 hHeld ?_
        refine held_p 15 hHeld ?_
        refine held_p 16 hHeld ?_
        refine held_p 17 hHeld ?_
        refine held_p 18 hHeld ?_
        refine held_p 19 hHeld ?_
        refine held_p 20 hHeld ?_
        refine held_t 21 hHeld ?_
        refine wpAnyH_done (by kernel_rfl) ?_ _
        clear hHeld
        have HB := hidden (hA.trans ((B1.trans (b2'.mono B1.size)).mono hA.size))
        have HE := hidden (entsB_no (x := x) HDJ.out (entAt_1 (by rw [← stripe_in6 hg]; exact hI)))
        go_wp2
        go_ret
        exact ⟨ret_bool HE.out.symm, HB.out⟩
      · have HI := hidden ((stripe_in6 hg).symm.trans hI)
        by_cases hj0 : j = 0
        · subst hj0
          simp only [Nat.zero_mul, Nat.add_zero] at u0 u1
          by_cases hL : (zs.length : Int) = x.n - 1
          · have hL1 : ((zs.length : Int) == x.n - 1) = true := by simpa using hL
            have hL2 : ((zs.length : Int) != x.n - 1) = false := by simpa using hL
            have HL := hidden hL
            have hsa : secB zs = allW zs := sec_all6 (by omega)
            have HSA := hidden hsa
            clear hL hsa
            cases hZ : secB zs
            · have HZ := hidden (HSA.out.symm.trans hZ)
              go_wp2_with fail
              generalize wr.alloc (.cells #[.int .i64 y, .slice av zs.length cv] 83) = w1 at X1 Y1 RZ B1 y0 y1 e1 e2 e9 zy zx zb HQ  ⊢
              refine wp_region_held_drew (S := fun w' => w'.cell? ⟨wr.heap.size, 0, none⟩ = some (.int .i64 y) ∧ w'.cell? ⟨w.heap.size, 1, none⟩ = some (.int .i64 x.n) ∧ w'.cell? ⟨w.heap.size, 2, none⟩ = some (.int .i64 x.s) ∧ w'.cell? ⟨w.heap.size, 9, none⟩ = some (.slice (some ⟨b, off, none⟩) nd cd)) (by kernel_rfl) ?_ (fun hHeld => ?_)
              · exact ⟨y0, e1, e2, e9⟩
              refine held_t 0 hHeld ?_
              refine held_t 1 hHeld ?_
              refine held_t 2 hHeld ?_
              refine held_t 3 hHeld ?_
              refine held_one (i := 4) (by kernel_rfl) rfl (by kernel_rfl) (fun K hK => ?_)
              go_simp
              refine (hasStripe_any _ x.n x.s y).mono ?_
              rintro e w2 ⟨rfl, b2⟩
              have b2' : Below w1.heap.size w1 w2 := (Below.refl w1.heap.size w1).drew.trans b2
              clear b2
              rw [hI]
              go_wp2_with fail
              clear hHeld
              refine hK.out _ _ ?_ (fun hHeld => ?_)
              · exact ⟨(b2'.cell (p := ⟨wr.heap.size, 0, none⟩) zy).trans y0, (b2'.cell (p := ⟨w.heap.size, 1, none⟩) zx).trans e1, (b2'.cell (p := ⟨w.heap.size, 2, none⟩) zx).trans e2, (b2'.cell (p := ⟨w.heap.size, 9, none⟩) zx).trans e9⟩
              clear hK K
              refine held_t 5 hHeld ?_
              refine held_t 6 hHeld ?_
              refine held_t 7 hHeld ?_
              refine held_t 8 hHeld ?_
              refine held_t 9 hHeld ?_
              refine held_p 10 hHeld ?_
              refine held_p 11 hHeld ?_
              refine held_p 12 hHeld ?_
              refine held_p 13 hHeld ?_
              refine held_p 14 hHeld ?_
              refine held_p 15 hHeld ?_
              refine held_p 16 hHeld ?_
              refine held_p 17 hHeld ?_
              refine held_p 18 hHeld ?_
              refine held_p 19 hHeld ?_
              refine held_t 20 hHeld ?_
              refine held_t 21 hHeld ?_
              refine wpAnyH_done (by kernel_rfl) ?_ _
              clear hHeld
              have my1 := (b2'.cell (p := ⟨wr.heap.size, 1, none⟩) zy).trans y1
              have me1 := (b2'.cell (p := ⟨w.heap.size, 1, none⟩) zx).trans e1
              have me2 := (b2'.cell (p := ⟨w.heap.size, 2, none⟩) zx).trans e2
              have my := Nat.lt_of_lt_of_le zy b2'.size
              have mx := Nat.lt_of_lt_of_le zx b2'.size
              have RZ2 := RZ.below b2'
              go_wp2_with fail
              refine wp_region_held_drew (S := fun w' => w'.cell? ⟨wr.heap.size, 1, none⟩ = some (.slice av zs.length cv) ∧ w'.cell? ⟨w.heap.size, 1, none⟩ = some (.int .i64 x.n) ∧ w'.cell? ⟨w.heap.size, 2, none⟩ = some (.int .i64 x.s)) (by kernel_rfl) ?_ (fun hHeld => ?_)
              · exact ⟨my1, me1, me2⟩
              refine held_t 0 hHeld ?_
              refine held_t 1 hHeld ?_
              refine held_t 2 hHeld ?_
              refine held_t 3 hHeld ?_
              refine held_t 4 hHeld ?_
              refine held_one (i := 5) (by kernel_rfl) rfl (by kernel_rfl) (fun K hK => ?_)
              go_simp
              refine (perStripe_any _ x.n x.s g1 g2).mono ?_
              rintro e w3 ⟨rfl, b3⟩
              have b3' : Below w2.heap.size w2 w3 := (Below.refl w2.heap.size w2).drew.trans b3
              clear b3
              go_wp2_with fail
              clear hHeld
              refine hK.out _ _ ?_ (fun hHeld => ?_)
              · exact ⟨(b3'.cell (p := ⟨wr.heap.size, 1, none⟩) my).trans my1, (b3'.cell (p := ⟨w.heap.size, 1, none⟩) mx).trans me1, (b3'.cell (p := ⟨w.heap.size, 2, none⟩) mx).trans me2⟩
              clear hK K
              refine held_t 6 hHeld ?_
              refine held_t 7 hHeld ?_
              refine held_t 8 hHeld ?_
              refine held_t 9 hHeld ?_
              refine held_one (i := 10) (by kernel_rfl) rfl (by kernel_rfl) (fun K hK => ?_)
              go_simp
              refine (implSecOk_any _ _ _ _ zs rfl (ints_rd (RZ2.below b3')).1 hwz).mono ?_
              rintro e w4 ⟨rfl, s4⟩
              have b4' : Below w2.heap.size w2 w4 := Below.andThen b3' (s4.below _)
              clear s4
              rw [hZ]
              go_wp2_with fail
              clear hHeld
              refine hK.out _ _ ?_ (fun hHeld => ?_)
              · exact ⟨(b4'.cell (p := ⟨wr.heap.size, 1, none⟩) my).trans my1, (b4'.cell (p := ⟨w.heap.size, 1, none⟩) mx).trans me1, (b4'.cell (p := ⟨w.heap.size, 2, none⟩) mx).trans me2⟩
              clear hK K
              refine held_t 11 hHeld ?_
              refine held_t 12 hHeld ?_
              refine wpAnyH_done (by kernel_rfl) ?_ _
              clear hHeld
              have HB := hidden (hA.trans ((B1.trans ((Below.andThen b2' b4').mono B1.size)).mono hA.size))
              have HE := hidden (entsB_no (x := x) HDJ.out (entAt_3 HZ.out))
              go_wp2
              go_ret
              exact ⟨ret_bool HE.out.symm, HB.out⟩
            · have HZ := hidden (HSA.out.symm.trans hZ)
              go_wp2_with fail
              generalize wr.alloc (.cells #[.int .i64 y, .slice av zs.length cv] 83) = w1 at X1 Y1 RZ B1 y0 y1 e1 e2 e9 zy zx zb HQ  ⊢
              refine wp_region_held_drew (S := fun w' => w'.cell? ⟨wr.heap.size, 0, none⟩ = some (.int .i64 y) ∧ w'.cell? ⟨w.heap.size, 1, none⟩ = some (.int .i64 x.n) ∧ w'.cell? ⟨w.heap.size, 2, none⟩ = some (.int .i64 x.s) ∧ w'.cell? ⟨w.heap.size, 9, none⟩ = some (.slice (some ⟨b, off, none⟩) nd cd)) (by kernel_rfl) ?_ (fun hHeld => ?_)
              · exact ⟨y0, e1, e2, e9⟩
              refine held_t 0 hHeld ?_
              refine held_t 1 hHeld ?_
              refine held_t 2 hHeld ?_
              refine held_t 3 hHeld ?_
              refine held_one (i := 4) (by kernel_rfl) rfl (by kernel_rfl) (fun K hK => ?_)
              go_simp
              refine (hasStripe_any _ x.n x.s y).mono ?_
              rintro e w2 ⟨rfl, b2⟩
              have b2' : Below w1.heap.size w1 w2 := (Below.refl w1.heap.size w1).drew.trans b2
              clear b2
              rw [hI]
              go_wp2_with fail
              clear hHeld
              refine hK.out _ _ ?_ (fun hHeld => ?_)
              · exact ⟨(b2'.cell (p := ⟨wr.heap.size, 0, none⟩) zy).trans y0, (b2'.cell (p := ⟨w.heap.size, 1, none⟩) zx).trans e1, (b2'.cell (p := ⟨w.heap.size, 2, none⟩) zx).trans e2, (b2'.cell (p := ⟨w.heap.size, 9, none⟩) zx).trans e9⟩
              clear hK K
              refine held_t 5 hHeld ?_
              refine held_t 6 hHeld ?_
              refine held_t 7 hHeld ?_
              refine held_t 8 hHeld ?_
              refine held_t 9 hHeld ?_
              refine held_p 10 hHeld ?_
              refine held_p 11 hHeld ?_
              refine held_p 12 hHeld ?_
              refine held_p 13 hHeld ?_
              refine held_p 14 hHeld ?_
              refine held_p 15 hHeld ?_
              refine held_p 16 hHeld ?_
              refine held_p 17 hHeld ?_
              refine held_p 18 hHeld ?_
              refine held_p 19 hHeld ?_
              refine held_t 20 hHeld ?_
              refine held_t 21 hHeld ?_
              refine wpAnyH_done (by kernel_rfl) ?_ _
              clear hHeld
              have my1 := (b2'.cell (p := ⟨wr.heap.size, 1, none⟩) zy).trans y1
              have me1 := (b2'.cell (p := ⟨w.heap.size, 1, none⟩) zx).trans e1
              have me2 := (b2'.cell (p := ⟨w.heap.size, 2, none⟩) zx).trans e2
              have my := Nat.lt_of_lt_of_le zy b2'.size
              have mx := Nat.lt_of_lt_of_le zx b2'.size
              have RZ2 := RZ.below b2'
              go_wp2_with fail
              refine wp_region_held_drew (S := fun w' => w'.cell? ⟨wr.heap.size, 1, none⟩ = some (.slice av zs.length cv) ∧ w'.cell? ⟨w.heap.size, 1, none⟩ = some (.int .i64 x.n) ∧ w'.cell? ⟨w.heap.size, 2, none⟩ = some (.int .i64 x.s)) (by kernel_rfl) ?_ (fun hHeld => ?_)
              · exact ⟨my1, me1, me2⟩
              refine held_t 0 hHeld ?_
              refine held_t 1 hHeld ?_
              refine held_t 2 hHeld ?_
              refine held_t 3 hHeld ?_
              refine held_t 4 hHeld ?_
              refine held_one (i := 5) (by kernel_rfl) rfl (by kernel_rfl) (fun K hK => ?_)
              go_simp
              refine (perStripe_any _ x.n x.s g1 g2).mono ?_
              rintro e w3 ⟨rfl, b3⟩
              have b3' : Below w2.heap.size w2 w3 := (Below.refl w2.heap.size w2).drew.trans b3
              clear b3
              go_wp2_with fail
              clear hHeld
              refine hK.out _ _ ?_ (fun hHeld => ?_)
              · exact ⟨(b3'.cell (p := ⟨wr.heap.size, 1, none⟩) my).trans my1, (b3'.cell (p := ⟨w.heap.size, 1, none⟩) mx).trans me1, (b3'.cell (p := ⟨w.heap.size, 2, none⟩) mx).trans me2⟩
              clear hK K
              refine held_t 6 hHeld ?_
              refine held_t 7 hHeld ?_
              refine held_t 8 hHeld ?_
              refine held_t 9 hHeld ?_
              refine held_one (i := 10) (by kernel_rfl) rfl (by kernel_rfl) (fun K hK => ?_)
              go_simp
              refine (implSecOk_any _ _ _ _ zs rfl (ints_rd (RZ2.below b3')).1 hwz).mono ?_
              rintro e w4 ⟨rfl, s4⟩
              have b4' : Below w2.heap.size w2 w4 := Below.andThen b3' (s4.below _)
              clear s4
              rw [hZ]
              go_wp2_with fail
              clear hHeld
              refine hK.out _ _ ?_ (fun hHeld => ?_)
              · exact ⟨(b4'.cell (p := ⟨wr.heap.size, 1, none⟩) my).trans my1, (b4'.cell (p := ⟨w.heap.size, 1, none⟩) mx).trans me1, (b4'.cell (p := ⟨w.heap.size, 2, none⟩) mx).trans me2⟩
              clear hK K
              refine held_t 11 hHeld ?_
              refine held_t 12 hHeld ?_
              refine wpAnyH_done (by kernel_rfl) ?_ _
              clear hHeld
              have HB := hidden (B1.trans ((Below.andThen b2' b4').mono B1.size))
              have hat : entAt x ds (0) (y, zs) = true := entAt_4 HI.out HL.out HZ.out
              go_wp2
              go_roundw
              case rel => exact ⟨0 + 1, by omega, by go_num, fun q d hq hm' => by
                  rcases Nat.lt_or_ge q (0) with h | h
                  · exact hall q d h hm'
                  · obtain rfl : q = 0 := by omega
                    rw [HDJ.out] at hm'
                    cases hm'
                    exact hat, HB.out⟩
              case measure => simp [intOf]; omega
          · have hL1 : ((zs.length : Int) == x.n - 1) = false := by simpa using hL
            have hL2 : ((zs.length : Int) != x.n - 1) = true := by simpa using hL
            have HL := hidden hL
            clear hL
            go_wp2_with fail
            generalize wr.alloc (.cells #[.int .i64 y, .slice av zs.length cv] 83) = w1 at X1 Y1 RZ B1 y0 y1 e1 e2 e9 zy zx zb HQ  ⊢
            refine wp_region_held_drew (S := fun w' => w'.cell? ⟨wr.heap.size, 0, none⟩ = some (.int .i64 y) ∧ w'.cell? ⟨w.heap.size, 1, none⟩ = some (.int .i64 x.n) ∧ w'.cell? ⟨w.heap.size, 2, none⟩ = some (.int .i64 x.s) ∧ w'.cell? ⟨w.heap.size, 9, none⟩ = some (.slice (some ⟨b, off, none⟩) nd cd)) (by kernel_rfl) ?_ (fun hHeld => ?_)
            · exact ⟨y0, e1, e2, e9⟩
            refine held_t 0 hHeld ?_
            refine held_t 1 hHeld ?_
            refine held_t 2 hHeld ?_
            refine held_t 3 hHeld ?_
            refine held_one (i := 4) (by kernel_rfl) rfl (by kernel_rfl) (fun K hK => ?_)
            go_simp
            refine (hasStripe_any _ x.n x.s y).mono ?_
            rintro e w2 ⟨rfl, b2⟩
            have b2' : Below w1.heap.size w1 w2 := (Below.refl w1.heap.size w1).drew.trans b2
            clear b2
            rw [hI]
            go_wp2_with fail
            clear hHeld
            refine hK.out _ _ ?_ (fun hHeld => ?_)
            · exact ⟨(b2'.cell (p := ⟨wr.heap.size, 0, none⟩) zy).trans y0, (b2'.cell (p := ⟨w.heap.size, 1, none⟩) zx).trans e1, (b2'.cell (p := ⟨w.heap.size, 2, none⟩) zx).trans e2, (b2'.cell (p := ⟨w.heap.size, 9, none⟩) zx).trans e9⟩
            clear hK K
            refine held_t 5 hHeld ?_
            refine held_t 6 hHeld ?_
            refine held_t 7 hHeld ?_
            refine held_t 8 hHeld ?_
            refine held_t 9 hHeld ?_
            refine held_p 10 hHeld ?_
            refine held_p 11 hHeld ?_
            refine held_p 12 hHeld ?_
            refine held_p 13 hHeld ?_
            refine held_p 14 hHeld ?_
            refine held_p 15 hHeld ?_
            refine held_p 16 hHeld ?_
            refine held_p 17 hHeld ?_
            refine held_p 18 hHeld ?_
            refine held_p 19 hHeld ?_
            refine held_t 20 hHeld ?_
            refine held_t 21 hHeld ?_
            refine wpAnyH_done (by kernel_rfl) ?_ _
            clear hHeld
            have my1 := (b2'.cell (p := ⟨wr.heap.size, 1, none⟩) zy).trans y1
            have me1 := (b2'.cell (p := ⟨w.heap.size, 1, none⟩) zx).trans e1
            have me2 := (b2'.cell (p := ⟨w.heap.size, 2, none⟩) zx).trans e2
            have my := Nat.lt_of_lt_of_le zy b2'.size
            have mx := Nat.lt_of_lt_of_le zx b2'.size
            have RZ2 := RZ.below b2'
            go_wp2_with fail
            refine wp_region_held_drew (S := fun w' => w'.cell? ⟨wr.heap.size, 1, none⟩ = some (.slice av zs.length cv) ∧ w'.cell? ⟨w.heap.size, 1, none⟩ = some (.int .i64 x.n) ∧ w'.cell? ⟨w.heap.size, 2, none⟩ = some (.int .i64 x.s)) (by kernel_rfl) ?_ (fun hHeld => ?_)
            · exact ⟨my1, me1, me2⟩
            refine held_t 0 hHeld ?_
            refine held_t 1 hHeld ?_
            refine held_t 2 hHeld ?_
            refine held_t 3 hHeld ?_
            refine held_t 4 hHeld ?_
            refine held_one (i := 5) (by kernel_rfl) rfl (by kernel_rfl) (fun K hK => ?_)
            go_simp
            refine (perStripe_any _ x.n x.s g1 g2).mono ?_
            rintro e w3 ⟨rfl, b3⟩
            have b3' : Below w2.heap.size w2 w3 := (Below.refl w2.heap.size w2).drew.trans b3
            clear b3
            go_wp2_with fail
            clear hHeld
            refine hK.out _ _ ?_ (fun hHeld => ?_)
            · exact ⟨(b3'.cell (p := ⟨wr.heap.size, 1, none⟩) my).trans my1, (b3'.cell (p := ⟨w.heap.size, 1, none⟩) mx).trans me1, (b3'.cell (p := ⟨w.heap.size, 2, none⟩) mx).trans me2⟩
            clear hK K
            refine held_t 6 hHeld ?_
            refine held_t 7 hHeld ?_
            refine held_p 8 hHeld ?_
            refine held_p 9 hHeld ?_
            refine held_none (i := 10) (by kernel_rfl) rfl (by kernel_rfl) hHeld ?_
            simp only [Act.put, List.setIfInBounds_toArray, List.set_cons_zero, List.set_cons_succ]
            refine held_p 11 hHeld ?_
            refine held_t 12 hHeld ?_
            refine wpAnyH_done (by kernel_rfl) ?_ _
            clear hHeld
            have HB := hidden (hA.trans ((B1.trans ((Below.andThen b2' b3').mono B1.size)).mono hA.size))
            have HE := hidden (entsB_no (x := x) HDJ.out (entAt_2 HL.out))
            go_wp2
            go_ret
            exact ⟨ret_bool HE.out.symm, HB.out⟩
        · obtain ⟨p, rfl⟩ : ∃ p, j = p + 1 := ⟨j - 1, by omega⟩
          have hpq : ds[p]? = some (ds[p]'(by omega)) := List.getElem?_eq_getElem (by omega)
          generalize ds[p]'(by omega) = q at hpq
          have qc := HQ.out p q hpq
          obtain ⟨s, zq⟩ := q
          simp only at qc
          have HPQ := hidden hpq
          clear hpq
          have j1 : IntKind.i64.wrap (((p + 1 : Nat) : Int) - 1) = (p : Int) := by rw [IntWalk.i64_in _ (by omega)]; omega
          have j2 : IntKind.i64.wrap ((p : Int) + 1 - 1) = (p : Int) := by rw [IntWalk.i64_in _ (by omega)]; omega
          have j3 : IntKind.i64.wrap (p : Int) = (p : Int) := IntWalk.i64_in _ (by omega)
          have j4 : (0 : Int) ≤ (p : Int) := by omega
          have j5 : (p : Int) < (nd : Int) := by omega
          have j6 : (0 : Int) < ((p + 1 : Nat) : Int) := by omega
          by_cases hlt : s < y
          · have hge : ¬ y ≤ s := by omega
            by_cases hL : (zs.length : Int) = x.n - 1
            · have hL1 : ((zs.length : Int) == x.n - 1) = true := by simpa using hL
              have hL2 : ((zs.length : Int) != x.n - 1) = false := by simpa using hL
              have HL := hidden hL
              have hsa : secB zs = allW zs := sec_all6 (by omega)
              have HSA := hidden hsa
              clear hL hsa
              cases hZ : secB zs
              · have HZ := hidden (HSA.out.symm.trans hZ)
                go_wp2_with fail
                generalize wr.alloc (.cells #[.int .i64 y, .slice av zs.length cv] 83) = w1 at X1 Y1 RZ B1 y0 y1 e1 e2 e9 zy zx zb HQ qc ⊢
                refine wp_region_held_drew (S := fun w' => w'.cell? ⟨wr.heap.size, 0, none⟩ = some (.int .i64 y) ∧ w'.cell? ⟨w.heap.size, 1, none⟩ = some (.int .i64 x.n) ∧ w'.cell? ⟨w.heap.size, 2, none⟩ = some (.int .i64 x.s) ∧ w'.cell? ⟨w.heap.size, 9, none⟩ = some (.slice (some ⟨b, off, none⟩) nd cd) ∧ w'.cell? ⟨b, off + p * 2, none⟩ = some (.int .i64 s)) (by kernel_rfl) ?_ (fun hHeld => ?_)
                · exact ⟨y0, e1, e2, e9, qc⟩
                refine held_t 0 hHeld ?_
                refine held_t 1 hHeld ?_
                refine held_t 2 hHeld ?_
                refine held_t 3 hHeld ?_
                refine held_one (i := 4) (by kernel_rfl) rfl (by kernel_rfl) (fun K hK => ?_)
                go_simp
                refine (hasStripe_any _ x.n x.s y).mono ?_
                rintro e w2 ⟨rfl, b2⟩
                have b2' : Below w1.heap.size w1 w2 := (Below.refl w1.heap.size w1).drew.trans b2
                clear b2
                rw [hI]
                go_wp2_with fail
                clear hHeld
                refine hK.out _ _ ?_ (fun hHeld => ?_)
                · exact ⟨(b2'.cell (p := ⟨wr.heap.size, 0, none⟩) zy).trans y0, (b2'.cell (p := ⟨w.heap.size, 1, none⟩) zx).trans e1, (b2'.cell (p := ⟨w.heap.size, 2, none⟩) zx).trans e2, (b2'.cell (p := ⟨w.heap.size, 9, none⟩) zx).trans e9, (b2'.cell (p := ⟨b, off + p * 2, none⟩) zb).trans qc⟩
                clear hK K
                refine held_t 5 hHeld ?_
                refine held_t 6 hHeld ?_
                refine held_t 7 hHeld ?_
                refine held_t 8 hHeld ?_
                refine held_t 9 hHeld ?_
                refine held_t 10 hHeld ?_
                refine held_t 11 hHeld ?_
                refine held_t 12 hHeld ?_
                refine held_t 13 hHeld ?_
                refine held_t 14 hHeld ?_
                refine held_t 15 hHeld ?_
                refine held_t 16 hHeld ?_
                refine held_t 17 hHeld ?_
                refine held_t 18 hHeld ?_
                refine held_t 19 hHeld ?_
                refine held_t 20 hHeld ?_
                refine held_t 21 hHeld ?_
                refine wpAnyH_done (by kernel_rfl) ?_ _
                clear hHeld
                have my1 := (b2'.cell (p := ⟨wr.heap.size, 1, none⟩) zy).trans y1
                have me1 := (b2'.cell (p := ⟨w.heap.size, 1, none⟩) zx).trans e1
                have me2 := (b2'.cell (p := ⟨w.heap.size, 2, none⟩) zx).trans e2
                have my := Nat.lt_of_lt_of_le zy b2'.size
                have mx := Nat.lt_of_lt_of_le zx b2'.size
                have RZ2 := RZ.below b2'
                go_wp2_with fail
                refine wp_region_held_drew (S := fun w' => w'.cell? ⟨wr.heap.size, 1, none⟩ = some (.slice av zs.length cv) ∧ w'.cell? ⟨w.heap.size, 1, none⟩ = some (.int .i64 x.n) ∧ w'.cell? ⟨w.heap.size, 2, none⟩ = some (.int .i64 x.s)) (by kernel_rfl) ?_ (fun hHeld => ?_)
                · exact ⟨my1, me1, me2⟩
                refine held_t 0 hHeld ?_
                refine held_t 1 hHeld ?_
                refine held_t 2 hHeld ?_
                refine held_t 3 hHeld ?_
                refine held_t 4 hHeld ?_
                refine held_one (i := 5) (by kernel_rfl) rfl (by kernel_rfl) (fun K hK => ?_)
                go_simp
                refine (perStripe_any _ x.n x.s g1 g2).mono ?_
                rintro e w3 ⟨rfl, b3⟩
                have b3' : Below w2.heap.size w2 w3 := (Below.refl w2.heap.size w2).drew.trans b3
                clear b3
                go_wp2_with fail
                clear hHeld
                refine hK.out _ _ ?_ (fun hHeld => ?_)
                · exact ⟨(b3'.cell (p := ⟨wr.heap.size, 1, none⟩) my).trans my1, (b3'.cell (p := ⟨w.heap.size, 1, none⟩) mx).trans me1, (b3'.cell (p := ⟨w.heap.size, 2, none⟩) mx).trans me2⟩
                clear hK K
                refine held_t 6 hHeld ?_
                refine held_t 7 hHeld ?_
                refine held_t 8 hHeld ?_
                refine held_t 9 hHeld ?_
                refine held_one (i := 10) (by kernel_rfl) rfl (by kernel_rfl) (fun K hK => ?_)
                go_simp
                refine (implSecOk_any _ _ _ _ zs rfl (ints_rd (RZ2.below b3')).1 hwz).mono ?_
                rintro e w4 ⟨rfl, s4⟩
                have b4' : Below w2.heap.size w2 w4 := Below.andThen b3' (s4.below _)
                clear s4
                rw [hZ]
                go_wp2_with fail
                clear hHeld
                refine hK.out _ _ ?_ (fun hHeld => ?_)
                · exact ⟨(b4'.cell (p := ⟨wr.heap.size, 1, none⟩) my).trans my1, (b4'.cell (p := ⟨w.heap.size, 1, none⟩) mx).trans me1, (b4'.cell (p := ⟨w.heap.size, 2, none⟩) mx).trans me2⟩
                clear hK K
                refine held_t 11 hHeld ?_
                refine held_t 12 hHeld ?_
                refine wpAnyH_done (by kernel_rfl) ?_ _
                clear hHeld
                have HB := hidden (hA.trans ((B1.trans ((Below.andThen b2' b4').mono B1.size)).mono hA.size))
                have HE := hidden (entsB_no (x := x) HDJ.out (entAt_3 HZ.out))
                go_wp2
                go_ret
                exact ⟨ret_bool HE.out.symm, HB.out⟩
              · have HZ := hidden (HSA.out.symm.trans hZ)
                go_wp2_with fail
                generalize wr.alloc (.cells #[.int .i64 y, .slice av zs.length cv] 83) = w1 at X1 Y1 RZ B1 y0 y1 e1 e2 e9 zy zx zb HQ qc ⊢
                refine wp_region_held_drew (S := fun w' => w'.cell? ⟨wr.heap.size, 0, none⟩ = some (.int .i64 y) ∧ w'.cell? ⟨w.heap.size, 1, none⟩ = some (.int .i64 x.n) ∧ w'.cell? ⟨w.heap.size, 2, none⟩ = some (.int .i64 x.s) ∧ w'.cell? ⟨w.heap.size, 9, none⟩ = some (.slice (some ⟨b, off, none⟩) nd cd) ∧ w'.cell? ⟨b, off + p * 2, none⟩ = some (.int .i64 s)) (by kernel_rfl) ?_ (fun hHeld => ?_)
                · exact ⟨y0, e1, e2, e9, qc⟩
                refine held_t 0 hHeld ?_
                refine held_t 1 hHeld ?_
                refine held_t 2 hHeld ?_
                refine held_t 3 hHeld ?_
                refine held_one (i := 4) (by kernel_rfl) rfl (by kernel_rfl) (fun K hK => ?_)
                go_simp
                refine (hasStripe_any _ x.n x.s y).mono ?_
                rintro e w2 ⟨rfl, b2⟩
                have b2' : Below w1.heap.size w1 w2 := (Below.refl w1.heap.size w1).drew.trans b2
                clear b2
                rw [hI]
                go_wp2_with fail
                clear hHeld
                refine hK.out _ _ ?_ (fun hHeld => ?_)
                · exact ⟨(b2'.cell (p := ⟨wr.heap.size, 0, none⟩) zy).trans y0, (b2'.cell (p := ⟨w.heap.size, 1, none⟩) zx).trans e1, (b2'.cell (p := ⟨w.heap.size, 2, none⟩) zx).trans e2, (b2'.cell (p := ⟨w.heap.size, 9, none⟩) zx).trans e9, (b2'.cell (p := ⟨b, off + p * 2, none⟩) zb).trans qc⟩
                clear hK K
                refine held_t 5 hHeld ?_
                refine held_t 6 hHeld ?_
                refine held_t 7 hHeld ?_
                refine held_t 8 hHeld ?_
                refine held_t 9 hHeld ?_
                refine held_t 10 hHeld ?_
                refine held_t 11 hHeld ?_
                refine held_t 12 hHeld ?_
                refine held_t 13 hHeld ?_
                refine held_t 14 hHeld ?_
                refine held_t 15 hHeld ?_
                refine held_t 16 hHeld ?_
                refine held_t 17 hHeld ?_
                refine held_t 18 hHeld ?_
                refine held_t 19 hHeld ?_
                refine held_t 20 hHeld ?_
                refine held_t 21 hHeld ?_
                refine wpAnyH_done (by kernel_rfl) ?_ _
                clear hHeld
                have my1 := (b2'.cell (p := ⟨wr.heap.size, 1, none⟩) zy).trans y1
                have me1 := (b2'.cell (p := ⟨w.heap.size, 1, none⟩) zx).trans e1
                have me2 := (b2'.cell (p := ⟨w.heap.size, 2, none⟩) zx).trans e2
                have my := Nat.lt_of_lt_of_le zy b2'.size
                have mx := Nat.lt_of_lt_of_le zx b2'.size
                have RZ2 := RZ.below b2'
                go_wp2_with fail
                refine wp_region_held_drew (S := fun w' => w'.cell? ⟨wr.heap.size, 1, none⟩ = some (.slice av zs.length cv) ∧ w'.cell? ⟨w.heap.size, 1, none⟩ = some (.int .i64 x.n) ∧ w'.cell? ⟨w.heap.size, 2, none⟩ = some (.int .i64 x.s)) (by kernel_rfl) ?_ (fun hHeld => ?_)
                · exact ⟨my1, me1, me2⟩
                refine held_t 0 hHeld ?_
                refine held_t 1 hHeld ?_
                refine held_t 2 hHeld ?_
                refine held_t 3 hHeld ?_
                refine held_t 4 hHeld ?_
                refine held_one (i := 5) (by kernel_rfl) rfl (by kernel_rfl) (fun K hK => ?_)
                go_simp
                refine (perStripe_any _ x.n x.s g1 g2).mono ?_
                rintro e w3 ⟨rfl, b3⟩
                have b3' : Below w2.heap.size w2 w3 := (Below.refl w2.heap.size w2).drew.trans b3
                clear b3
                go_wp2_with fail
                clear hHeld
                refine hK.out _ _ ?_ (fun hHeld => ?_)
                · exact ⟨(b3'.cell (p := ⟨wr.heap.size, 1, none⟩) my).trans my1, (b3'.cell (p := ⟨w.heap.size, 1, none⟩) mx).trans me1, (b3'.cell (p := ⟨w.heap.size, 2, none⟩) mx).trans me2⟩
                clear hK K
                refine held_t 6 hHeld ?_
                refine held_t 7 hHeld ?_
                refine held_t 8 hHeld ?_
                refine held_t 9 hHeld ?_
                refine held_one (i := 10) (by kernel_rfl) rfl (by kernel_rfl) (fun K hK => ?_)
                go_simp
                refine (implSecOk_any _ _ _ _ zs rfl (ints_rd (RZ2.below b3')).1 hwz).mono ?_
                rintro e w4 ⟨rfl, s4⟩
                have b4' : Below w2.heap.size w2 w4 := Below.andThen b3' (s4.below _)
                clear s4
                rw [hZ]
                go_wp2_with fail
                clear hHeld
                refine hK.out _ _ ?_ (fun hHeld => ?_)
                · exact ⟨(b4'.cell (p := ⟨wr.heap.size, 1, none⟩) my).trans my1, (b4'.cell (p := ⟨w.heap.size, 1, none⟩) mx).trans me1, (b4'.cell (p := ⟨w.heap.size, 2, none⟩) mx).trans me2⟩
                clear hK K
                refine held_t 11 hHeld ?_
                refine held_t 12 hHeld ?_
                refine wpAnyH_done (by kernel_rfl) ?_ _
                clear hHeld
                have HB := hidden (B1.trans ((Below.andThen b2' b4').mono B1.size))
                have hat : entAt x ds (p + 1) (y, zs) = true := (entAt_5 HI.out HL.out HZ.out HPQ.out).trans (by simpa using hlt)
                go_wp2
                go_roundw
                case rel => exact ⟨p + 1 + 1, by omega, by go_num, fun q d hq hm' => by
                    rcases Nat.lt_or_ge q (p + 1) with h | h
                    · exact hall q d h hm'
                    · obtain rfl : q = p + 1 := by omega
                      rw [HDJ.out] at hm'
                      cases hm'
                      exact hat, HB.out⟩
                case measure => simp [intOf]; omega
            · have hL1 : ((zs.length : Int) == x.n - 1) = false := by simpa using hL
              have hL2 : ((zs.length : Int) != x.n - 1) = true := by simpa using hL
              have HL := hidden hL
              clear hL
              go_wp2_with fail
              generalize wr.alloc (.cells #[.int .i64 y, .slice av zs.length cv] 83) = w1 at X1 Y1 RZ B1 y0 y1 e1 e2 e9 zy zx zb HQ qc ⊢
              refine wp_region_held_drew (S := fun w' => w'.cell? ⟨wr.heap.size, 0, none⟩ = some (.int .i64 y) ∧ w'.cell? ⟨w.heap.size, 1, none⟩ = some (.int .i64 x.n) ∧ w'.cell? ⟨w.heap.size, 2, none⟩ = some (.int .i64 x.s) ∧ w'.cell? ⟨w.heap.size, 9, none⟩ = some (.slice (some ⟨b, off, none⟩) nd cd) ∧ w'.cell? ⟨b, off + p * 2, none⟩ = some (.int .i64 s)) (by kernel_rfl) ?_ (fun hHeld => ?_)
              · exact ⟨y0, e1, e2, e9, qc⟩
              refine held_t 0 hHeld ?_
              refine held_t 1 hHeld ?_
              refine held_t 2 hHeld ?_
              refine held_t 3 hHeld ?_
              refine held_one (i := 4) (by kernel_rfl) rfl (by kernel_rfl) (fun K hK => ?_)
              go_simp
              refine (hasStripe_any _ x.n x.s y).mono ?_
              rintro e w2 ⟨rfl, b2⟩
              have b2' : Below w1.heap.size w1 w2 := (Below.refl w1.heap.size w1).drew.trans b2
              clear b2
              rw [hI]
              go_wp2_with fail
              clear hHeld
              refine hK.out _ _ ?_ (fun hHeld => ?_)
              · exact ⟨(b2'.cell (p := ⟨wr.heap.size, 0, none⟩) zy).trans y0, (b2'.cell (p := ⟨w.heap.size, 1, none⟩) zx).trans e1, (b2'.cell (p := ⟨w.heap.size, 2, none⟩) zx).trans e2, (b2'.cell (p := ⟨w.heap.size, 9, none⟩) zx).trans e9, (b2'.cell (p := ⟨b, off + p * 2, none⟩) zb).trans qc⟩
              clear hK K
              refine held_t 5 hHeld ?_
              refine held_t 6 hHeld ?_
              refine held_t 7 hHeld ?_
              refine held_t 8 hHeld ?_
              refine held_t 9 hHeld ?_
              refine held_t 10 hHeld ?_
              refine held_t 11 hHeld ?_
              refine held_t 12 hHeld ?_
              refine held_t 13 hHeld ?_
              refine held_t 14 hHeld ?_
              refine held_t 15 hHeld ?_
              refine held_t 16 hHeld ?_
              refine held_t 17 hHeld ?_
              refine held_t 18 hHeld ?_
              refine held_t 19 hHeld ?_
              refine held_t 20 hHeld ?_
              refine held_t 21 hHeld ?_
              refine wpAnyH_done (by kernel_rfl) ?_ _
              clear hHeld
              have my1 := (b2'.cell (p := ⟨wr.heap.size, 1, none⟩) zy).trans y1
              have me1 := (b2'.cell (p := ⟨w.heap.size, 1, none⟩) zx).trans e1
              have me2 := (b2'.cell (p := ⟨w.heap.size, 2, none⟩) zx).trans e2
              have my := Nat.lt_of_lt_of_le zy b2'.size
              have mx := Nat.lt_of_lt_of_le zx b2'.size
              have RZ2 := RZ.below b2'
              go_wp2_with fail
              refine wp_region_held_drew (S := fun w' => w'.cell? ⟨wr.heap.size, 1, none⟩ = some (.slice av zs.length cv) ∧ w'.cell? ⟨w.heap.size, 1, none⟩ = some (.int .i64 x.n) ∧ w'.cell? ⟨w.heap.size, 2, none⟩ = some (.int .i64 x.s)) (by kernel_rfl) ?_ (fun hHeld => ?_)
              · exact ⟨my1, me1, me2⟩
              refine held_t 0 hHeld ?_
              refine held_t 1 hHeld ?_
              refine held_t 2 hHeld ?_
              refine held_t 3 hHeld ?_
              refine held_t 4 hHeld ?_
              refine held_one (i := 5) (by kernel_rfl) rfl (by kernel_rfl) (fun K hK => ?_)
              go_simp
              refine (perStripe_any _ x.n x.s g1 g2).mono ?_
              rintro e w3 ⟨rfl, b3⟩
              have b3' : Below w2.heap.size w2 w3 := (Below.refl w2.heap.size w2).drew.trans b3
              clear b3
              go_wp2_with fail
              clear hHeld
              refine hK.out _ _ ?_ (fun hHeld => ?_)
              · exact ⟨(b3'.cell (p := ⟨wr.heap.size, 1, none⟩) my).trans my1, (b3'.cell (p := ⟨w.heap.size, 1, none⟩) mx).trans me1, (b3'.cell (p := ⟨w.heap.size, 2, none⟩) mx).trans me2⟩
              clear hK K
              refine held_t 6 hHeld ?_
              refine held_t 7 hHeld ?_
              refine held_p 8 hHeld ?_
              refine held_p 9 hHeld ?_
              refine held_none (i := 10) (by kernel_rfl) rfl (by kernel_rfl) hHeld ?_
              simp only [Act.put, List.setIfInBounds_toArray, List.set_cons_zero, List.set_cons_succ]
              refine held_p 11 hHeld ?_
              refine held_t 12 hHeld ?_
              refine wpAnyH_done (by kernel_rfl) ?_ _
              clear hHeld
              have HB := hidden (hA.trans ((B1.trans ((Below.andThen b2' b3').mono B1.size)).mono hA.size))
              have HE := hidden (entsB_no (x := x) HDJ.out (entAt_2 HL.out))
              go_wp2
              go_ret
              exact ⟨ret_bool HE.out.symm, HB.out⟩
          · have hge : y ≤ s := by omega
            go_wp2_with fail
            generalize wr.alloc (.cells #[.int .i64 y, .slice av zs.length cv] 83) = w1 at X1 Y1 RZ B1 y0 y1 e1 e2 e9 zy zx zb HQ qc ⊢
            refine wp_region_held_drew (S := fun w' => w'.cell? ⟨wr.heap.size, 0, none⟩ = some (.int .i64 y) ∧ w'.cell? ⟨w.heap.size, 1, none⟩ = some (.int .i64 x.n) ∧ w'.cell? ⟨w.heap.size, 2, none⟩ = some (.int .i64 x.s) ∧ w'.cell? ⟨w.heap.size, 9, none⟩ = some (.slice (some ⟨b, off, none⟩) nd cd) ∧ w'.cell? ⟨b, off + p * 2, none⟩ = some (.int .i64 s)) (by kernel_rfl) ?_ (fun hHeld => ?_)
            · exact ⟨y0, e1, e2, e9, qc⟩
            refine held_t 0 hHeld ?_
            refine held_t 1 hHeld ?_
            refine held_t 2 hHeld ?_
            refine held_t 3 hHeld ?_
            refine held_one (i := 4) (by kernel_rfl) rfl (by kernel_rfl) (fun K hK => ?_)
            go_simp
            refine (hasStripe_any _ x.n x.s y).mono ?_
            rintro e w2 ⟨rfl, b2⟩
            have b2' : Below w1.heap.size w1 w2 := (Below.refl w1.heap.size w1).drew.trans b2
            clear b2
            rw [hI]
            go_wp2_with fail
            clear hHeld
            refine hK.out _ _ ?_ (fun hHeld => ?_)
            · exact ⟨(b2'.cell (p := ⟨wr.heap.size, 0, none⟩) zy).trans y0, (b2'.cell (p := ⟨w.heap.size, 1, none⟩) zx).trans e1, (b2'.cell (p := ⟨w.heap.size, 2, none⟩) zx).trans e2, (b2'.cell (p := ⟨w.heap.size, 9, none⟩) zx).trans e9, (b2'.cell (p := ⟨b, off + p * 2, none⟩) zb).trans qc⟩
            clear hK K
            refine held_t 5 hHeld ?_
            refine held_t 6 hHeld ?_
            refine held_t 7 hHeld ?_
            refine held_t 8 hHeld ?_
            refine held_t 9 hHeld ?_
            refine held_t 10 hHeld ?_
            refine held_t 11 hHeld ?_
            refine held_t 12 hHeld ?_
            refine held_t 13 hHeld ?_
            refine held_t 14 hHeld ?_
            refine held_t 15 hHeld ?_
            refine held_t 16 hHeld ?_
            refine held_t 17 hHeld ?_
            refine held_t 18 hHeld ?_
            refine held_t 19 hHeld ?_
            refine held_t 20 hHeld ?_
            refine held_t 21 hHeld ?_
            refine wpAnyH_done (by kernel_rfl) ?_ _
            clear hHeld
            have HB := hidden (hA.trans ((B1.trans (b2'.mono B1.size)).mono hA.size))
            have HE := hidden (entsB_no (x := x) HDJ.out (entAt_6 HPQ.out hge))
            go_wp2
            go_ret
            exact ⟨ret_bool HE.out.symm, HB.out⟩
    · have ej : j = nd := by omega
      subst ej
      have hAll : entsB x ds = true := allIx_iff.2 (fun q d hq => hall q d (by have := (List.getElem?_eq_some_iff.1 hq).1; omega) hq)
      have HB := hidden (hA.trans (hb.mono hA.size))
      go_wp2
      go_ret
      exact ⟨ret_bool hAll.symm, HB.out⟩

set_option maxHeartbeats 1600000 in
theorem recsOk_any (w : World) (x : ArrN) (am ad : Option Addr) (nm cm nd cd : Nat) :
    Calls Try.prog 66 #[.agg #[.int .i64 x.id, .int .i64 x.n, .int .i64 x.s, .slice am nm cm, .int .i64 x.lost, .int .i64 x.built, .int .i64 x.seq, .int .i64 x.tail, .int .i64 x.gen, .slice ad nd cd, .int .i64 x.fuse, .bool x.down, .bool x.broken]] w fun e w' => e = .returned (.bool (recB6 x)) ∧ Below w.heap.size w w' := by
  have hA := new_below w (.cells #[.int .i64 x.id, .int .i64 x.n, .int .i64 x.s, .slice am nm cm, .int .i64 x.lost, .int .i64 x.built, .int .i64 x.seq, .int .i64 x.tail, .int .i64 x.gen, .slice ad nd cd, .int .i64 x.fuse, .bool x.down, .bool x.broken] 34)
  have X := Box.new w 34 #[.int .i64 x.id, .int .i64 x.n, .int .i64 x.s, .slice am nm cm, .int .i64 x.lost, .int .i64 x.built, .int .i64 x.seq, .int .i64 x.tail, .int .i64 x.gen, .slice ad nd cd, .int .i64 x.fuse, .bool x.down, .bool x.broken]
  obtain ⟨k0, k1, k2, k3, k4, k5, k6, k7, k8, k9, k10, k11, k12⟩ := X.cells13
  clear k0 k1 k2 k3 k4 k5 k8 k9 k10 k11 k12 X
  go_enter Try.func66, Try.ntmps66
  go_wp2_with fail
  refine (within_any _ _ _ _).mono ?_
  rintro e wq ⟨rfl, hq⟩
  obtain rfl := hq.symm
  cases hs : inB x.seq 0 60000
  · have HF : Hid (recB6 x = false) := by unfold Hid recB6; rw [hs]; rfl
    go_wp2
    go_ret
    exact ⟨ret_bool HF.out.symm, hA⟩
  · go_wp2_with fail
    refine (within_any _ _ _ _).mono ?_
    rintro e wq ⟨rfl, hq⟩
    obtain rfl := hq.symm
    cases ht : inB x.tail 0 60000
    · have HF : Hid (recB6 x = false) := by unfold Hid recB6; rw [hs, ht]; rfl
      go_wp2
      go_ret
      exact ⟨ret_bool HF.out.symm, hA⟩
    · have HF : Hid (recB6 x = inB (x.seq - x.tail) 0 4) := by unfold Hid recB6; rw [hs, ht]; rfl
      obtain ⟨s1, s2⟩ := inB_iff.1 hs
      obtain ⟨t1, t2⟩ := inB_iff.1 ht
      have hw : IntKind.i64.wrap (x.seq - x.tail) = x.seq - x.tail := IntWalk.i64_in _ (by omega)
      go_wp2_with fail
      refine (within_any _ _ _ _).mono ?_
      rintro e wq ⟨rfl, hq⟩
      obtain rfl := hq.symm
      cases hd : inB (x.seq - x.tail) 0 4
      · go_wp2
        go_ret
        exact ⟨ret_bool (by rw [HF.out, hd]), hA⟩
      · go_wp2
        go_ret
        exact ⟨ret_bool (by rw [HF.out, hd]), hA⟩

set_option maxRecDepth 20000 in
set_option maxHeartbeats 3200000 in
theorem implArrOk_any (w : World) (E F G : TypeId) (x : ArrN) (am ad : Option Addr) (nm cm nd cd : Nat) (ms : List MemD) (ds : List (Int × List Int)) (h0 : (tMemS E F).Rd w [.slice am nm cm] ms) (h1 : (tWrS G).Rd w [.slice ad nd cd] ds) (hw : wtArr ms ds ≤ 2097152) :
    Calls Try.prog 39 #[.agg #[.int .i64 x.id, .int .i64 x.n, .int .i64 x.s, .slice am nm cm, .int .i64 x.lost, .int .i64 x.built, .int .i64 x.seq, .int .i64 x.tail, .int .i64 x.gen, .slice ad nd cd, .int .i64 x.fuse, .bool x.down, .bool x.broken]] w fun e w' => e = .returned (.bool (arrB x ms ds)) ∧ Below w.heap.size w w' := by
  have hwm : wtMemS ms ≤ 2097152 := by unfold wtArr at hw; omega
  have hwd : wtWrS ds ≤ 2097152 := by unfold wtArr at hw; omega
  have hA := new_below w (.cells #[.int .i64 x.id, .int .i64 x.n, .int .i64 x.s, .slice am nm cm, .int .i64 x.lost, .int .i64 x.built, .int .i64 x.seq, .int .i64 x.tail, .int .i64 x.gen, .slice ad nd cd, .int .i64 x.fuse, .bool x.down, .bool x.broken] 34)
  have X := Box.new w 34 #[.int .i64 x.id, .int .i64 x.n, .int .i64 x.s, .slice am nm cm, .int .i64 x.lost, .int .i64 x.built, .int .i64 x.seq, .int .i64 x.tail, .int .i64 x.gen, .slice ad nd cd, .int .i64 x.fuse, .bool x.down, .bool x.broken]
  obtain ⟨k0, k1, k2, k3, k4, k5, k6, k7, k8, k9, k10, k11, k12⟩ := X.cells13
  have zA := X.lt
  have r0 := h0.below hA
  have r1 := h1.below hA
  go_enter Try.func39, Try.ntmps39
  go_wp2_with fail
  generalize w.alloc (.cells #[.int .i64 x.id, .int .i64 x.n, .int .i64 x.s, .slice am nm cm, .int .i64 x.lost, .int .i64 x.built, .int .i64 x.seq, .int .i64 x.tail, .int .i64 x.gen, .slice ad nd cd, .int .i64 x.fuse, .bool x.down, .bool x.broken] 34) = W at hA X zA r0 r1 k0 k1 k2 k3 k4 k5 k6 k7 k8 k9 k10 k11 k12 ⊢
  refine (implGeoOk_any _ _ _).mono ?_
  rintro e w1 ⟨rfl, b1⟩
  have X1 := X.below b1 X.lt
  have B1 := Below.andThen hA b1
  have q1 := r0.below b1
  have t1 := r1.below b1
  clear k0 k1 k2 k3 k4 k5 k6 k7 k8 k9 k10 k11 k12 b1 X hA r0 r1
  obtain ⟨k0, k1, k2, k3, k4, k5, k6, k7, k8, k9, k10, k11, k12⟩ := X1.cells13
  cases hg : geoB x.n x.s
  · have HF : Hid (arrB x ms ds = false) := by
      unfold Hid
      unfold arrB; rw [hg]; rfl
    go_wp2
    go_ret
    exact ⟨ret_bool HF.out.symm, B1⟩
  · have HE := hidden (arr_same6 (ms := ms) (ds := ds) hg)
    obtain ⟨g1, g2, g3, g4⟩ := geoB_iff.1 hg
    go_wp2_with fail
    refine (within_any _ _ _ _).mono ?_
    rintro e wq ⟨rfl, hq⟩
    obtain rfl := hq.symm
    cases hid : inB x.id 1 60000
    · have HF : Hid (arrB x ms ds = false) := by
        unfold Hid
        rw [HE.out, hid]; rfl
      go_wp2
      go_ret
      exact ⟨ret_bool HF.out.symm, B1⟩
    · go_wp2_with fail
      refine (lostOk_any _ x.n x.s x.lost x.built ⟨g1, g2⟩).mono ?_
      rintro e w2 ⟨rfl, b2⟩
      have X2 := X1.below b2 X1.lt
      have B2 := Below.andThen B1 b2
      have q2 := q1.below b2
      have t2 := t1.below b2
      clear k0 k1 k2 k3 k4 k5 k6 k7 k8 k9 k10 k11 k12 b2 X1 B1 q1 t1
      obtain ⟨k0, k1, k2, k3, k4, k5, k6, k7, k8, k9, k10, k11, k12⟩ := X2.cells13
      cases hlo : lostB x.n x.s x.lost x.built
      · have HF : Hid (arrB x ms ds = false) := by
          unfold Hid
          rw [HE.out, hid, hlo]; rfl
        go_wp2
        go_ret
        exact ⟨ret_bool HF.out.symm, B2⟩
      · skip
        go_wp2_with fail
        refine (within_any _ _ _ _).mono ?_
        rintro e wq ⟨rfl, hq⟩
        obtain rfl := hq.symm
        cases hge : inB x.gen 0 60000
        · have HF : Hid (arrB x ms ds = false) := by
            unfold Hid
            rw [HE.out, hid, hlo, hge]; rfl
          go_wp2
          go_ret
          exact ⟨ret_bool HF.out.symm, B2⟩
        · skip
          go_wp2_with fail
          refine (within_any _ _ _ _).mono ?_
          rintro e wq ⟨rfl, hq⟩
          obtain rfl := hq.symm
          cases hfu : inB x.fuse (-1) 1000
          · have HF : Hid (arrB x ms ds = false) := by
              unfold Hid
              rw [HE.out, hid, hlo, hge, hfu]; rfl
            go_wp2
            go_ret
            exact ⟨ret_bool HF.out.symm, B2⟩
          · go_wp2_with fail
            refine (memsOk_any _ E F x _ _ _ _ _ _ ms q2 hwm hg).mono ?_
            rintro e w3 ⟨rfl, b3⟩
            have X3 := X2.below b3 X2.lt
            have B3 := Below.andThen B2 b3
            have q3 := q2.below b3
            have t3 := t2.below b3
            clear k0 k1 k2 k3 k4 k5 k6 k7 k8 k9 k10 k11 k12 b3 X2 B2 q2 t2
            obtain ⟨k0, k1, k2, k3, k4, k5, k6, k7, k8, k9, k10, k11, k12⟩ := X3.cells13
            cases hms : memsB x ms
            · have HF : Hid (arrB x ms ds = false) := by
                unfold Hid
                rw [HE.out, hid, hlo, hge, hfu, hms]; rfl
              go_wp2
              go_ret
              exact ⟨ret_bool HF.out.symm, B3⟩
            · go_wp2_with fail
              refine (recsOk_any _ x _ _ _ _ _ _).mono ?_
              rintro e w4 ⟨rfl, b4⟩
              have X4 := X3.below b4 X3.lt
              have B4 := Below.andThen B3 b4
              have q4 := q3.below b4
              have t4 := t3.below b4
              clear k0 k1 k2 k3 k4 k5 k6 k7 k8 k9 k10 k11 k12 b4 X3 B3 q3 t3
              obtain ⟨k0, k1, k2, k3, k4, k5, k6, k7, k8, k9, k10, k11, k12⟩ := X4.cells13
              cases hre : recB6 x
              · have HF : Hid (arrB x ms ds = false) := by
                  unfold Hid
                  rw [HE.out, hid, hlo, hge, hfu, hms, hre]; rfl
                go_wp2
                go_ret
                exact ⟨ret_bool HF.out.symm, B4⟩
              · have HF : Hid (arrB x ms ds = entsB x ds) := by
                  unfold Hid
                  rw [HE.out, hid, hlo, hge, hfu, hms, hre]; rfl
                go_wp2_with fail
                refine (dirtyOk_any _ G x _ _ _ _ _ _ ds t4 hwd hg).mono ?_
                rintro e w5 ⟨rfl, b5⟩
                have X5 := X4.below b5 X4.lt
                have B5 := Below.andThen B4 b5
                have q5 := q4.below b5
                have t5 := t4.below b5
                clear k0 k1 k2 k3 k4 k5 k6 k7 k8 k9 k10 k11 k12 b5 X4 B4 q4 t4
                obtain ⟨k0, k1, k2, k3, k4, k5, k6, k7, k8, k9, k10, k11, k12⟩ := X5.cells13
                cases hds : entsB x ds
                · go_wp2
                  go_ret
                  exact ⟨ret_bool (by rw [HF.out, hds]), B5⟩
                · go_wp2
                  go_ret
                  exact ⟨ret_bool (by rw [HF.out, hds]), B5⟩

end Go.Proofs.Ytfimpohbpccjaaa

/-
  The walks of the program's look whether a disk lives at a stripe, and of a stripe's words. Condition: the array weighs at most 2097152.
-/
namespace Go.Proofs.Ytfimpohbpccjaaa
open Go.RowKit

theorem wordOn_any (w : World) (E : TypeId) (x : ArrN) (ms : List MemD) (j : Nat) (v : Value) (s : Int) (hd : DiskV w E x ms j v) (hw : wtMemS ms ≤ 2097152) :
    Calls Try.prog 41 #[v, .int .i64 s] w fun e w' => e = .returned (.tuple #[.int .i64 (word6 x ms (j : Int) s), .bool (has6 x ms (j : Int) s)]) ∧ Below w.heap.size w w' := by
  obtain ⟨a0, a1, a3, c0, c1, c3, ss, cs, f, bs, hj, r0, r1, r3, h⟩ := hd
  have hwm := Nat.le_trans (inner_leM hj) hw
  obtain ⟨hh, hv⟩ := has_at6 (x := x) (s := s) hj
  have hl := live_at6 (x := x) (s := s) hj
  rcases h with ⟨rfl, rfl⟩ | ⟨rfl, hx, rfl⟩ | ⟨rfl, hx, rfl⟩
  · exact wordOn_failed w x ms j s (by rw [hh, hl]; rfl)
  · exact wordOn_lost w E x ms j s a0 a1 a3 c0 c1 c3 ss cs bs r0 r1 r3 hwm (by rw [hh, hl]; simp [hx]) hv
  · exact wordOn_sound w E x ms j s a0 a1 a3 c0 c1 c3 ss cs bs r0 r1 r3 hwm (by rw [hh, hl]; simp [hx]) hv

theorem bears_any (w : World) (E : TypeId) (x : ArrN) (ms : List MemD) (j : Nat) (v : Value) (s : Int) (hd : DiskV w E x ms j v) :
    Calls Try.prog 32 #[v, .int .i64 s] w fun e w' => e = .returned (.bool (liveB x ms (j : Int) s)) ∧ Below w.heap.size w w' := by
  obtain ⟨a0, a1, a3, c0, c1, c3, ss, cs, f, bs, hj, r0, r1, r3, h⟩ := hd
  have hl := live_at6 (x := x) (s := s) hj
  rcases h with ⟨rfl, rfl⟩ | ⟨rfl, hx, rfl⟩ | ⟨rfl, hx, rfl⟩
  · refine (bears_failed w s).mono ?_
    rintro e w' ⟨rfl, rfl⟩
    exact ⟨ret_bool (by rw [hl]; rfl), Below.refl _ _⟩
  · refine (bears_lost w _ _ _ _ _ _ _ _ _ _ _ _).mono ?_
    rintro e w' ⟨rfl, b⟩
    exact ⟨ret_bool (by rw [hl]; simp [hx]), b⟩
  · refine (bears_sound w _ _ _ _ _ _ _ _ _ _ _).mono ?_
    rintro e w' ⟨rfl, b⟩
    exact ⟨ret_bool (by rw [hl]; simp [hx]), b⟩

set_option maxRecDepth 20000 in
set_option maxHeartbeats 1600000 in
theorem implLiveAt_any (w : World) (E F G : TypeId) (x : ArrN) (am ad : Option Addr) (nm cm nd cd : Nat) (ms : List MemD) (ds : List (Int × List Int)) (m s : Int) (h0 : (tMemS E F).Rd w [.slice am nm cm] ms) (_ : (tWrS G).Rd w [.slice ad nd cd] ds) (hw : wtArr ms ds ≤ 2097152) :
    Calls Try.prog 11 #[.agg #[.int .i64 x.id, .int .i64 x.n, .int .i64 x.s, .slice am nm cm, .int .i64 x.lost, .int .i64 x.built, .int .i64 x.seq, .int .i64 x.tail, .int .i64 x.gen, .slice ad nd cd, .int .i64 x.fuse, .bool x.down, .bool x.broken], .int .i64 m, .int .i64 s] w fun e w' => e = .returned (.bool (liveB x ms m s)) ∧ Below w.heap.size w w' := by
  have hwm : wtMemS ms ≤ 2097152 := by unfold wtArr at hw; omega
  obtain ⟨hl, hc, hm⟩ := row_length h0
  have hA := new_below w (.cells #[.int .i64 x.id, .int .i64 x.n, .int .i64 x.s, .slice am nm cm, .int .i64 x.lost, .int .i64 x.built, .int .i64 x.seq, .int .i64 x.tail, .int .i64 x.gen, .slice ad nd cd, .int .i64 x.fuse, .bool x.down, .bool x.broken] 34)
  have X := Box.new w 34 #[.int .i64 x.id, .int .i64 x.n, .int .i64 x.s, .slice am nm cm, .int .i64 x.lost, .int .i64 x.built, .int .i64 x.seq, .int .i64 x.tail, .int .i64 x.gen, .slice ad nd cd, .int .i64 x.fuse, .bool x.down, .bool x.broken]
  obtain ⟨k0, k1, k2, k3, k4, k5, k6, k7, k8, k9, k10, k11, k12⟩ := X.cells13
  have r0 := h0.below hA
  have zA := X.lt
  go_enter Try.func11, Try.ntmps11
  go_wp2_with fail
  generalize w.alloc (.cells #[.int .i64 x.id, .int .i64 x.n, .int .i64 x.s, .slice am nm cm, .int .i64 x.lost, .int .i64 x.built, .int .i64 x.seq, .int .i64 x.tail, .int .i64 x.gen, .slice ad nd cd, .int .i64 x.fuse, .bool x.down, .bool x.broken] 34) = W at hA X zA r0 k0 k1 k2 k3 k4 k5 k6 k7 k8 k9 k10 k11 k12 ⊢
  refine (hasDisk_any _ x _ _ _ _ _ _ m).mono ?_
  rintro e w1 ⟨rfl, b1⟩
  have X1 := X.below b1 zA
  have B1 := Below.andThen hA b1
  have q1 := r0.below b1
  clear k0 k1 k2 k3 k4 k5 k6 k7 k8 k9 k10 k11 k12 X b1 hA zA r0
  obtain ⟨k0, k1, k2, k3, k4, k5, k6, k7, k8, k9, k10, k11, k12⟩ := X1.cells13
  cases hi : inB m 0 ((nm : Int) - 1)
  · have HF : Hid (liveB x ms m s = false) := by unfold Hid liveB; rw [hl, hi]; rfl
    go_wp2
    go_ret
    exact ⟨ret_bool HF.out.symm, B1⟩
  · have hi2 := inB_iff.1 hi
    obtain ⟨j, rfl⟩ := Int.eq_ofNat_of_zero_le hi2.1
    go_wp2_with fail
    refine (diskAt_any _ E F x _ _ _ _ _ _ ms j q1 hwm (by omega)).mono ?_
    rintro e w2 ⟨v, rfl, hd, b2⟩
    have B2 := Below.andThen B1 b2
    clear k0 k1 k2 k3 k4 k5 k6 k7 k8 k9 k10 k11 k12 X1 b2 B1 q1
    go_wp2_with fail
    refine (bears_any _ E x ms j v s hd).mono ?_
    rintro e w3 ⟨rfl, b3⟩
    have B3 := Below.andThen B2 b3
    clear b3 B2 hd
    go_wp2
    go_ret
    exact ⟨rfl, B3⟩

theorem fill6 (x : ArrN) (ms : List MemD) (s : Int) (n j : Nat) (h : j < n) : (wordL x ms s j ++ List.replicate (n - j) (0 : Int)).set j (word6 x ms (j : Int) s) = wordL x ms s (j + 1) ++ List.replicate (n - (j + 1)) (0 : Int) := by
  have e : n - j = (n - (j + 1)) + 1 := by omega
  rw [List.set_append, if_neg (by rw [wordL_len]; omega), wordL_len, Nat.sub_self, e, List.replicate_succ, List.set_cons_zero, wordL_succ, List.append_assoc]
  rfl

set_option maxRecDepth 20000 in
set_option maxHeartbeats 3200000 in
theorem implWords_any (w : World) (E F G : TypeId) (x : ArrN) (am ad : Option Addr) (nm cm nd cd : Nat) (ms : List MemD) (ds : List (Int × List Int)) (s : Int) (h0 : (tMemS E F).Rd w [.slice am nm cm] ms) (h1 : (tWrS G).Rd w [.slice ad nd cd] ds) (hw : wtArr ms ds ≤ 2097152) :
    Calls Try.prog 14 #[.agg #[.int .i64 x.id, .int .i64 x.n, .int .i64 x.s, .slice am nm cm, .int .i64 x.lost, .int .i64 x.built, .int .i64 x.seq, .int .i64 x.tail, .int .i64 x.gen, .slice ad nd cd, .int .i64 x.fuse, .bool x.down, .bool x.broken], .int .i64 s] w fun e w' => ∃ a' l' c', e = .returned (.tuple #[.slice a' l' c', .bool (wordsOk6 x ms ds s)]) ∧ tIntS.Own w' w.heap.size w'.heap.size [.slice a' l' c'] (wordsL6 x ms ds s) ∧ Below w.heap.size w w' := by
  have hwm : wtMemS ms ≤ 2097152 := by unfold wtArr at hw; omega
  obtain ⟨hl, hc, hm⟩ := row_length h0
  obtain ⟨i0, hi, hz0, hz1, hz2⟩ := info_parts Try.info3
  have hA := new_below w (.cells #[.int .i64 x.id, .int .i64 x.n, .int .i64 x.s, .slice am nm cm, .int .i64 x.lost, .int .i64 x.built, .int .i64 x.seq, .int .i64 x.tail, .int .i64 x.gen, .slice ad nd cd, .int .i64 x.fuse, .bool x.down, .bool x.broken] 34)
  have X := Box.new w 34 #[.int .i64 x.id, .int .i64 x.n, .int .i64 x.s, .slice am nm cm, .int .i64 x.lost, .int .i64 x.built, .int .i64 x.seq, .int .i64 x.tail, .int .i64 x.gen, .slice ad nd cd, .int .i64 x.fuse, .bool x.down, .bool x.broken]
  obtain ⟨k0, k1, k2, k3, k4, k5, k6, k7, k8, k9, k10, k11, k12⟩ := X.cells13
  have zA := X.lt
  have r0 := h0.below hA
  have r1 := h1.below hA
  go_enter Try.func14, Try.ntmps14
  go_wp2_with fail
  generalize w.alloc (.cells #[.int .i64 x.id, .int .i64 x.n, .int .i64 x.s, .slice am nm cm, .int .i64 x.lost, .int .i64 x.built, .int .i64 x.seq, .int .i64 x.tail, .int .i64 x.gen, .slice ad nd cd, .int .i64 x.fuse, .bool x.down, .bool x.broken] 34) = W at hA X zA r0 r1 k0 k1 k2 k3 k4 k5 k6 k7 k8 k9 k10 k11 k12 ⊢
  refine (implArrOk_any _ E F G x _ _ _ _ _ _ ms ds r0 r1 hw).mono ?_
  rintro e w1 ⟨rfl, b1⟩
  have X1 := X.below b1 zA
  have B1 := Below.andThen hA b1
  have q1 := r0.below b1
  clear k0 k1 k2 k3 k4 k5 k6 k7 k8 k9 k10 k11 k12 X b1 hA zA r0 r1
  obtain ⟨k0, k1, k2, k3, k4, k5, k6, k7, k8, k9, k10, k11, k12⟩ := X1.cells13
  cases ha : arrB x ms ds
  · skip
    have HF : Hid (wordsOk6 x ms ds s = false ∧ wordsL6 x ms ds s = []) := by unfold Hid wordsOk6 wordsL6 okB6; simp [ha]
    have FO := hidden ((own_ints (Owns.lit .i64 3 w1 [] 0 #[] rfl rfl (by unfold maxLen; omega))).widen (lo' := w.heap.size) B1.size (Nat.le_refl _))
    have FB := hidden (B1.alloc B1.size (.cells #[] 3))
    go_wp2
    refine bodyPost_ret (v := .tuple #[.slice (some ⟨w1.heap.size, 0, none⟩) 0 0, .bool false]) (by simp [results, Try.results14, go_sem]) rfl ?_
    exact ⟨_, _, _, by rw [HF.out.1], by rw [HF.out.2]; exact FO.out, FB.out⟩
  · have hg : geoB x.n x.s = true := by unfold arrB at ha; simp only [Bool.and_eq_true] at ha; exact ha.1
    have hmn : (ms.length : Int) = x.n := by unfold arrB memsB at ha; simp only [Bool.and_eq_true, decide_eq_true_eq] at ha; exact ha.2.2.1.2
    have HMN := hidden hmn
    clear hmn
    obtain ⟨g1, g2, g3, g4⟩ := geoB_iff.1 hg
    cases hbr : x.broken
    · rw [hbr] at k12
      go_wp2_with fail
      refine (hasStripe_any _ x.n x.s s).mono ?_
      rintro e w2 ⟨rfl, b2⟩
      have X2 := X1.below b2 X1.lt
      have B2 := Below.andThen B1 b2
      have q2 := q1.below b2
      clear k0 k1 k2 k3 k4 k5 k6 k7 k8 k9 k10 k11 k12 X1 b2 B1 q1
      have hst := stripe_in6 (x := x) (y := s) hg
      cases hin : stripeB x.n x.s s
      · skip
        have HF : Hid (wordsOk6 x ms ds s = false ∧ wordsL6 x ms ds s = []) := by unfold Hid wordsOk6 wordsL6 okB6; rw [← hst, hin]; simp
        have FO := hidden ((own_ints (Owns.lit .i64 3 w2 [] 0 #[] rfl rfl (by unfold maxLen; omega))).widen (lo' := w.heap.size) B2.size (Nat.le_refl _))
        have FB := hidden (B2.alloc B2.size (.cells #[] 3))
        go_wp2
        refine bodyPost_ret (v := .tuple #[.slice (some ⟨w2.heap.size, 0, none⟩) 0 0, .bool false]) (by simp [results, Try.results14, go_sem]) rfl ?_
        exact ⟨_, _, _, by rw [HF.out.1], by rw [HF.out.2]; exact FO.out, FB.out⟩
      · have HF : Hid (wordsOk6 x ms ds s = wordsB x ms s ∧ wordsL6 x ms ds s = words6 x ms s) := by unfold Hid wordsOk6 wordsL6 okB6; rw [ha, hbr, ← hst, hin]; exact ⟨rfl, rfl⟩
        clear hst hbr ha hin
        obtain ⟨n, hn⟩ : ∃ n : Nat, x.n = (n : Int) := ⟨x.n.toNat, by omega⟩
        have HN := hidden hn
        have HNT : Hid (x.n.toNat = n) := by unfold Hid; omega
        have hn5 : n ≤ 5 := by omega
        have hn3 : 3 ≤ n := by omega
        have hnm : n = nm := by have := HMN.out; omega
        have HNM := hidden hnm
        clear hnm
        obtain ⟨k0, k1, k2, k3, k4, k5, k6, k7, k8, k9, k10, k11, k12⟩ := X2.cells13
        rw [hn] at k1
        clear hn k0 k2 k3 k4 k5 k6 k7 k8 k9 k10 k11 k12
        have hb3 : i0.bytes * n ≤ 281474976710656 := by rw [hz2]; omega
        have hm3 : n ≤ maxLen := by unfold maxLen; omega
        go_wp2_with (at_make; refine wpList_make_full _ rfl _ _ 38 rfl w2.heap.size 3 i0 (.int .i64 0) 1 Try.underlying38 hi hz0 hz1 _ _ _ _ n rfl rfl rfl rfl hb3 hm3 (Nat.le_refl _) ?_; intro w3 hown hgrow)
        have hO : Owns .i64 3 w3 w2.heap.size (.slice (some ⟨w2.heap.size, 0, none⟩) n n) (List.replicate n 0) := by
          rw [made_ints] at hown
          unfold Owns
          rw [List.length_replicate]
          exact hown
        have hO1 := hO.own
        have hB1 : Below w2.heap.size w2 w3 := (Below.refl _ _).grown hgrow (Nat.le_refl _) (by simp)
        have zw : w2.heap.size < w3.heap.size := hO1.2 _ rfl
        generalize w3.heap.size = hi1 at hO1 zw
        clear hown hgrow hO k1
        go_loopw [7, 32] (fun lo i wr => ∃ j : Nat, j ≤ n ∧ i = .int .i64 j ∧ lo = .int .i64 (lostN (missL x ms s j)) ∧ (missL x ms s j).length ≤ 1 ∧ Own .i64 3 wr w2.heap.size hi1 (.slice (some ⟨w2.heap.size, 0, none⟩) n n) (wordL x ms s j ++ List.replicate (n - j) 0) ∧ Below w2.heap.size w2 wr) (fun _ i _ => n - (intOf i).toNat)
        case atStart => exact ⟨0, Nat.zero_le _, rfl, rfl, Nat.zero_le _, by simpa [wordL] using hO1, hB1⟩
        case round =>
          clear hO1 hB1
          obtain ⟨j, hj, rfl, rfl, hm1, ho, hb⟩ := hrel
          have Xr := X2.below hb X2.lt
          have zs := hb.size
          by_cases hlt : j < n
          · obtain ⟨k0, k1, k2, k3, k4, k5, k6, k7, k8, k9, k10, k11, k12⟩ := Xr.cells13
            have hlt' : (j : Int) < (n : Int) := by omega
            go_wp2_with fail
            refine (diskAt_any _ E F x _ _ _ _ _ _ ms j (q2.below hb) hwm (by have := HNM.out; omega)).mono ?_
            rintro e w5 ⟨v, rfl, hd, b5⟩
            have o5 := ho.below b5
            have B5 := hb.trans (b5.mono zs)
            clear k0 k1 k2 k3 k4 k5 k6 k7 k8 k9 k10 k11 k12 Xr b5 ho hb
            go_wp2_with fail
            refine (wordOn_any _ E x ms j v s hd hwm).mono ?_
            rintro e w6 ⟨rfl, b6⟩
            have o6 := o5.below b6
            have B6 := B5.trans (b6.mono B5.size)
            clear b6 o5 B5 hd
            have hfs := fill6 x ms s n j hlt
            obtain ⟨hcy, hfy, hst, hbt⟩ := o6.store j hlt (word6 x ms (j : Int) s)
            rw [hfs] at hst
            have HST := hidden hst
            have HB : Hid (Below w2.heap.size w2 (w6.setCell ⟨w2.heap.size, j, none⟩ (.int .i64 (word6 x ms (j : Int) s)))) := B6.setCell (Nat.le_refl _) _
            have hj0 : (0 : Int) ≤ (j : Int) := Int.natCast_nonneg _
            clear hst hbt hfs
            generalize (wordL x ms s j ++ List.replicate (n - j) 0).getD j 0 = old at hcy
            cases hh : has6 x ms (j : Int) s
            · have hmn := missL_no hh
              rcases list_cases hm1 with h00 | ⟨p, hp⟩
              · have hl0 : lostN (missL x ms s j) = -1 := by rw [h00]; rfl
                have hl1 : lostN (missL x ms s (j + 1)) = (j : Int) := by rw [hmn, h00]; rfl
                have hc1 : (missL x ms s (j + 1)).length ≤ 1 := by rw [hmn, h00]; exact Nat.le_refl _
                have HL1 := hidden hl1
                have HC1 := hidden hc1
                rw [hl0]
                clear hmn h00 hl0 hl1 hc1 B6 o6
                generalize word6 x ms (j : Int) s = y at HST HB ⊢
                go_wp2
                go_roundw
                case rel => exact ⟨j + 1, by omega, by go_num, by rw [HL1.out], HC1.out, HST.out, HB.out⟩
                case measure => simp [intOf]; omega
              · have hl0 : lostN (missL x ms s j) = (p : Int) := by rw [hp]; rfl
                obtain ⟨t1, t2⟩ := words_two (x := x) (ms := ms) (s := s) (j := j + 1) (by rw [hmn, hp]; exact Nat.le_refl _) (by have := HNT.out; omega)
                have HT1 := hidden t1
                have HT2 := hidden t2
                rw [hl0]
                have hp0 : ((p : Int) != -1) = true := by simp
                have hp1 : ((p : Int) == -1) = false := by simp
                clear hmn hp hl0 t1 t2 HST HB
                have FO := hidden ((own_ints (Owns.lit .i64 3 w6 [] 0 #[] rfl rfl (by unfold maxLen; omega))).widen (lo' := w.heap.size) (Nat.le_trans B2.size B6.size) (Nat.le_refl _))
                have FB := hidden (B2.trans ((B6.alloc B6.size (.cells #[] 3)).mono B2.size))
                clear B6 o6
                go_wp2
                refine bodyPost_ret (v := .tuple #[.slice (some ⟨w6.heap.size, 0, none⟩) 0 0, .bool false]) (by simp [results, Try.results14, go_sem]) rfl ?_
                exact ⟨_, _, _, by rw [HF.out.1, HT1.out], by rw [HF.out.2, HT2.out]; exact FO.out, FB.out⟩
            · have hmy := missL_yes hh
              have HL1 : Hid (lostN (missL x ms s (j + 1)) = lostN (missL x ms s j)) := by unfold Hid; rw [hmy]
              have HC1 : Hid ((missL x ms s (j + 1)).length ≤ 1) := by unfold Hid; rw [hmy]; exact hm1
              clear hmy B6 o6
              generalize word6 x ms (j : Int) s = y at HST HB ⊢
              go_wp2
              go_roundw
              case rel => exact ⟨j + 1, by omega, by go_num, by rw [HL1.out], HC1.out, HST.out, HB.out⟩
              case measure => simp [intOf]; omega
          · have ej : j = n := by omega
            subst ej
            rw [Nat.sub_self, List.replicate_zero, List.append_nil] at ho
            have hlen := wordL_len x ms s j
            rcases list_cases hm1 with h00 | ⟨p, hp⟩
            · have hl0 : lostN (missL x ms s j) = -1 := by rw [h00]; rfl
              obtain ⟨t1, t2⟩ := words_none (x := x) (ms := ms) (s := s) (by rw [HNT.out]; exact h00)
              rw [HNT.out] at t2
              have HT1 := hidden t1
              have HT2 := hidden t2
              rw [hl0]
              clear h00 hl0 t1 t2
              have FO := hidden ((own_ints ho.1).widen (lo' := w.heap.size) B2.size (Nat.le_refl _))
              have FB := hidden (B2.trans (hb.mono B2.size))
              clear ho hb Xr hlen hm1 hj hlt
              go_wp2
              refine bodyPost_ret (v := .tuple #[.slice (some ⟨w2.heap.size, 0, none⟩) j j, .bool true]) (by simp [results, Try.results14, go_sem]) rfl ?_
              exact ⟨_, _, _, by rw [HF.out.1, HT1.out], by rw [HF.out.2, HT2.out]; exact FO.out, FB.out⟩
            · have hl0 : lostN (missL x ms s j) = (p : Int) := by rw [hp]; rfl
              have hpj : p < j := missL_lt (x := x) (ms := ms) (s := s) (by rw [hp]; simp)
              obtain ⟨t1, t2⟩ := words_one (x := x) (ms := ms) (s := s) (p := p) (by rw [HNT.out]; exact hp)
              rw [HNT.out] at t2
              have HT1 := hidden t1
              have HT2 := hidden t2
              rw [hl0]
              clear hp hl0 t1 t2
              have hp0 : ((p : Int) != -1) = true := by simp
              have hp1 : ((p : Int) == -1) = false := by simp
              have hp2 : (0 : Int) ≤ (p : Int) := by omega
              have hp3 : (p : Int) < (j : Int) := by omega
              go_wp2_with fail
              refine (implMissingWord_any _ _ _ _ (wordL x ms s j) (p : Int) hlen ho.reads (by omega)).mono ?_
              rintro e w7 ⟨rfl, hs7⟩
              have O1 := ho.same hs7
              have B7 := hb.trans (hs7.below _)
              obtain ⟨c1, f1, O2, t2⟩ := O1.store p hpj (skipL (wordL x ms s j) (p : Int) j)
              have FO := hidden ((own_ints O2.1).widen (lo' := w.heap.size) B2.size (Nat.le_refl _))
              have FB := hidden (B2.trans ((B7.setCell (p := ⟨w2.heap.size, p, none⟩) (Nat.le_refl _) (.int .i64 (skipL (wordL x ms s j) (p : Int) j))).mono B2.size))
              generalize (wordL x ms s j).getD p 0 = y at c1
              generalize skipL (wordL x ms s j) (p : Int) j = q at FO FB HT2 ⊢
              clear O1 O2 t2 ho hb hs7 Xr B7
              go_wp2
              refine bodyPost_ret (v := .tuple #[.slice (some ⟨w2.heap.size, 0, none⟩) j j, .bool true]) (by simp [results, Try.results14, go_sem]) rfl ?_
              exact ⟨_, _, _, by rw [HF.out.1, HT1.out], by rw [HF.out.2, HT2.out]; exact FO.out, FB.out⟩
    · rw [hbr] at k12
      have HF : Hid (wordsOk6 x ms ds s = false ∧ wordsL6 x ms ds s = []) := by unfold Hid wordsOk6 wordsL6 okB6; simp [hbr]
      have FO := hidden ((own_ints (Owns.lit .i64 3 w1 [] 0 #[] rfl rfl (by unfold maxLen; omega))).widen (lo' := w.heap.size) B1.size (Nat.le_refl _))
      have FB := hidden (B1.alloc B1.size (.cells #[] 3))
      go_wp2
      refine bodyPost_ret (v := .tuple #[.slice (some ⟨w1.heap.size, 0, none⟩) 0 0, .bool false]) (by simp [results, Try.results14, go_sem]) rfl ?_
      exact ⟨_, _, _, by rw [HF.out.1], by rw [HF.out.2]; exact FO.out, FB.out⟩

end Go.Proofs.Ytfimpohbpccjaaa

/-
  The walks of the program's StripeOf, IndexOf and BlockAt. No condition.
-/
namespace Go.Proofs.Ytfimpohbpccjaaa
open Go.RowKit

set_option maxRecDepth 20000 in
theorem place_stripe (a b : Int) (w : World) : Sem.run Try.prog (Instr.field 116 (.agg #[.int .i64 a, .int .i64 b]) 0) w = .ok (.int .i64 a) w := rfl
set_option maxRecDepth 20000 in
theorem place_index (a b : Int) (w : World) : Sem.run Try.prog (Instr.field 116 (.agg #[.int .i64 a, .int .i64 b]) 1) w = .ok (.int .i64 b) w := rfl

set_option maxRecDepth 20000 in
/-- The block at a spot is the one of that stripe and index. -/
theorem spot_block {n s t i : Int} : spotB n s t i = true ↔ ∃ b, blockB n s b = true ∧ stripeN n s b = t ∧ indexN n s b = i := by
  constructor
  · intro h
    unfold spotB at h
    rw [Bool.and_eq_true, stripeB_of, inB_iff] at h
    obtain ⟨⟨hg, h1, h2⟩, h3, h4⟩ := h
    obtain ⟨g1, g2, g3, g4⟩ := geoB_iff.1 hg
    have hb : blockB n s (t * (n - 1) + i) = true := by
      rw [blockB_of, blocksN_of hg]
      have : n = 3 ∨ n = 4 ∨ n = 5 := by omega
      rcases this with rfl | rfl | rfl <;> omega
    refine ⟨t * (n - 1) + i, hb, ?_, ?_⟩
    · unfold stripeN
      rw [if_pos hb]
      have : n = 3 ∨ n = 4 ∨ n = 5 := by omega
      rcases this with rfl | rfl | rfl <;> omega
    · unfold indexN
      rw [if_pos hb]
      have : n = 3 ∨ n = 4 ∨ n = 5 := by omega
      rcases this with rfl | rfl | rfl <;> omega
  · rintro ⟨b, hb, rfl, rfl⟩
    have hg := blockB_geo hb
    have hb' := blockB_of.1 hb
    rw [blocksN_of hg] at hb'
    obtain ⟨g1, g2, g3, g4⟩ := geoB_iff.1 hg
    unfold spotB
    rw [Bool.and_eq_true, stripeB_of, inB_iff]
    unfold stripeN indexN
    rw [if_pos hb, if_pos hb]
    have : n = 3 ∨ n = 4 ∨ n = 5 := by omega
    rcases this with rfl | rfl | rfl <;> exact ⟨⟨hg, by omega⟩, by omega⟩

set_option maxRecDepth 20000 in
theorem block_at {n s b : Int} (hb : blockB n s b = true) : blockN n s (stripeN n s b) (indexN n s b) = b := by
  have h := spot_block.2 ⟨b, hb, rfl, rfl⟩
  unfold blockN
  rw [if_pos h]
  obtain ⟨g1, g2, g3, g4⟩ := geoB_iff.1 (blockB_geo hb)
  have hb' := blockB_of.1 hb
  unfold stripeN indexN
  rw [if_pos hb, if_pos hb]
  have : n = 3 ∨ n = 4 ∨ n = 5 := by omega
  rcases this with rfl | rfl | rfl <;> omega

set_option maxRecDepth 20000 in
set_option maxHeartbeats 1600000 in
theorem implBlockAt_any (w : World) (n s t i : Int) : Calls Try.prog 73 #[.agg #[.int .i64 n, .int .i64 s], .int .i64 t, .int .i64 i] w fun e w' => e = .returned (.int .i64 (blockN n s t i)) ∧ Below w.heap.size w w' := by
  have hA : Below w.heap.size w ((w.alloc (.cells #[.int .i64 n, .int .i64 s] 30)).alloc (.cells #[.int .i64 t, .int .i64 i] 116)) := (new_below w _).alloc (by simp) _
  have X : Gbox ((w.alloc (.cells #[.int .i64 n, .int .i64 s] 30)).alloc (.cells #[.int .i64 t, .int .i64 i] 116)) w.heap.size 30 n s := (Gbox.new w 30 n s).below (new_below _ _) (by simp)
  have Y : Gbox ((w.alloc (.cells #[.int .i64 n, .int .i64 s] 30)).alloc (.cells #[.int .i64 t, .int .i64 i] 116)) (w.heap.size + 1) 116 t i := by
    have := Gbox.new (w.alloc (.cells #[.int .i64 n, .int .i64 s] 30)) 116 t i
    simpa using this
  obtain ⟨k0, k1⟩ := X.cells
  obtain ⟨x0, x1⟩ := (Gbox.new w 30 n s).cells
  go_enter Try.func73, Try.ntmps73
  go_wp2_with fail
  refine (implBlocks_any _ _ _).mono ?_
  rintro e w1 ⟨rfl, b1⟩
  have hz : w.heap.size + 1 < ((w.alloc (.cells #[.int .i64 n, .int .i64 s] 30)).alloc (.cells #[.int .i64 t, .int .i64 i] 116)).heap.size := by simp
  have X1 := X.below b1 (by omega)
  have Y1 := Y.below b1 hz
  have B1 := hA.trans (b1.mono hA.size)
  have hr := blocksN_range n s
  obtain ⟨nb, hnb⟩ := Int.eq_ofNat_of_zero_le hr.1
  have HNB := hidden hnb
  rw [hnb] at hr ⊢
  clear k0 k1 x0 x1 X Y hA b1 hz hnb
  go_wp2_with fail
  go_loopw [14] (fun c wr => ∃ j : Nat, j ≤ nb ∧ c = .int .i64 j ∧ (∀ k : Nat, k < j → ¬ (stripeN n s k = t ∧ indexN n s k = i)) ∧ Gbox wr w.heap.size 30 n s ∧ Gbox wr (w.heap.size + 1) 116 t i ∧ Below w.heap.size w wr) (fun c _ => nb - (intOf c).toNat)
  case atStart => exact ⟨0, Nat.zero_le _, rfl, by omega, X1, Y1, B1⟩
  case round =>
    obtain ⟨j, hj, rfl, hk, X2, Y2, B2⟩ := hrel
    have HK := hidden hk
    clear hk X1 Y1 B1
    by_cases hlt : j < nb
    · have hb : blockB n s j = true := blockB_of.2 ⟨by omega, by rw [HNB.out]; omega⟩
      have HBA := hidden (block_at hb)
      obtain ⟨k0, k1⟩ := X2.cells
      obtain ⟨j0, j1⟩ := Y2.cells
      generalize hS : stripeN n s j = S at HBA HK
      generalize hI : indexN n s j = I at HBA HK
      have HP : ∀ W : World, Calls Try.prog 94 #[.agg #[.int .i64 n, .int .i64 s], .int .i64 (j : Int)] W fun e w' => e = .returned (.agg #[.int .i64 S, .int .i64 I]) ∧ Below W.heap.size W w' := by
        intro W
        rw [← hS, ← hI]
        exact placeOf_any _ _ _ _
      have HS := hidden hS
      have HI := hidden hI
      clear hS hI
      by_cases h1 : S = t
      · by_cases h2 : I = i
        · subst h1 h2
          go_wp2_with fail
          go_region_held3 (fun w' => w'.cell? ⟨w.heap.size, 0, none⟩ = some (.int .i64 n) ∧ w'.cell? ⟨w.heap.size, 1, none⟩ = some (.int .i64 s) ∧ w'.cell? ⟨w.heap.size + 1, 0, none⟩ = some (.int .i64 S) ∧ w'.cell? ⟨w.heap.size + 1, 1, none⟩ = some (.int .i64 I))
            (first | (exact ⟨X3.cells.1, X3.cells.2, Y3.cells.1, Y3.cells.2⟩) | (exact ⟨k0, k1, j0, j1⟩) | go_keep)
            (first
              | (go_at_call 94; refine (HP _).mono ?_; rintro e w3 ⟨rfl, b3⟩; have B3 := Below.andThen B2.drew b3; have X3 := X2.drew.below b3 X2.lt; have Y3 := Y2.drew.below b3 Y2.lt))
          go_wp2
          go_ret
          exact ⟨ret_int HBA.out.symm, B3⟩
        · have n2 : (I == i) = false := by simpa using h2
          subst h1
          go_wp2_with fail
          go_region_held3 (fun w' => w'.cell? ⟨w.heap.size, 0, none⟩ = some (.int .i64 n) ∧ w'.cell? ⟨w.heap.size, 1, none⟩ = some (.int .i64 s) ∧ w'.cell? ⟨w.heap.size + 1, 0, none⟩ = some (.int .i64 S) ∧ w'.cell? ⟨w.heap.size + 1, 1, none⟩ = some (.int .i64 i))
            (first | (exact ⟨X3.cells.1, X3.cells.2, Y3.cells.1, Y3.cells.2⟩) | (exact ⟨k0, k1, j0, j1⟩) | go_keep)
            (first
              | (go_at_call 94; refine (HP _).mono ?_; rintro e w3 ⟨rfl, b3⟩; have B3 := Below.andThen B2.drew b3; have X3 := X2.drew.below b3 X2.lt; have Y3 := Y2.drew.below b3 Y2.lt))
          go_wp2
          go_roundw
          case rel => exact ⟨j + 1, by omega, by go_num, fun k hk h => by
            by_cases hkj : k < j
            · exact HK.out k hkj h
            · have : k = j := by omega
              subst this
              exact h2 (HI.out ▸ h.2), X3, Y3, B3⟩
          case measure => simp [intOf]; omega
      · have n1 : (S == t) = false := by simpa using h1
        go_wp2_with fail
        go_region_held3 (fun w' => w'.cell? ⟨w.heap.size, 0, none⟩ = some (.int .i64 n) ∧ w'.cell? ⟨w.heap.size, 1, none⟩ = some (.int .i64 s) ∧ w'.cell? ⟨w.heap.size + 1, 0, none⟩ = some (.int .i64 t) ∧ w'.cell? ⟨w.heap.size + 1, 1, none⟩ = some (.int .i64 i))
          (first | (exact ⟨X3.cells.1, X3.cells.2, Y3.cells.1, Y3.cells.2⟩) | (exact ⟨k0, k1, j0, j1⟩) | go_keep)
          (first
            | (go_at_call 94; refine (HP _).mono ?_; rintro e w3 ⟨rfl, b3⟩; have B3 := Below.andThen B2.drew b3; have X3 := X2.drew.below b3 X2.lt; have Y3 := Y2.drew.below b3 Y2.lt))
        go_wp2
        go_roundw
        case rel => exact ⟨j + 1, by omega, by go_num, fun k hk h => by
          by_cases hkj : k < j
          · exact HK.out k hkj h
          · have : k = j := by omega
            subst this
            exact h1 (HS.out ▸ h.1), X3, Y3, B3⟩
        case measure => simp [intOf]; omega
    · go_wp2
      go_ret
      have e : j = nb := by omega
      subst e
      refine ⟨ret_int ?_, B2⟩
      unfold blockN
      rw [if_neg]
      intro h
      obtain ⟨b, hb, h1, h2⟩ := spot_block.1 h
      obtain ⟨hb0, hb1⟩ := blockB_of.1 hb
      obtain ⟨b, rfl⟩ := Int.eq_ofNat_of_zero_le hb0
      rw [HNB.out] at hb1
      exact HK.out b (by omega) ⟨h1, h2⟩

end Go.Proofs.Ytfimpohbpccjaaa

/-
  The walks of both DiskOf, and of the specification's Blocks, ParityOf, StripeOf, IndexOf and BlockAt. No condition.
-/
namespace Go.Proofs.Ytfimpohbpccjaaa
open Go.RowKit

theorem blockN_ok {n s t i : Int} (h : spotB n s t i = true) : 0 ≤ blockN n s t i := by
  unfold blockN
  rw [if_pos h]
  unfold spotB at h
  rw [Bool.and_eq_true, stripeB_of, inB_iff] at h
  obtain ⟨⟨hg, h1, h2⟩, h3, h4⟩ := h
  obtain ⟨g1, g2, g3, g4⟩ := geoB_iff.1 hg
  have : n = 3 ∨ n = 4 ∨ n = 5 := by omega
  rcases this with rfl | rfl | rfl <;> omega

theorem spotB_of {n s t i : Int} : spotB n s t i = true ↔ geoB n s = true ∧ 0 ≤ t ∧ t < s ∧ 0 ≤ i ∧ i ≤ n - 2 := by
  unfold spotB
  rw [Bool.and_eq_true, stripeB_of, inB_iff]
  constructor
  · rintro ⟨⟨a, b, c⟩, d, e⟩
    exact ⟨a, b, c, d, e⟩
  · rintro ⟨a, b, c, d, e⟩
    exact ⟨⟨a, b, c⟩, d, e⟩

set_option maxHeartbeats 1600000 in
theorem implDiskOf_any (w : World) (n s t i : Int) : Calls Try.prog 47 #[.agg #[.int .i64 n, .int .i64 s], .int .i64 t, .int .i64 i] w fun e w' => e = .returned (.int .i64 (diskN n s t i)) ∧ Below w.heap.size w w' := by
  have hA := new_below w (.cells #[.int .i64 n, .int .i64 s] 30)
  have X := Gbox.new w 30 n s
  obtain ⟨k0, k1⟩ := X.cells
  have zA := X.lt
  go_enter Try.func47, Try.ntmps47
  go_wp2_with fail
  refine (implBlockAt_any _ _ _ _ _).mono ?_
  rintro e w1 ⟨rfl, b1⟩
  have X1 := X.below b1 zA
  have B1 := Below.andThen hA b1
  clear k0 k1 X b1 hA zA
  obtain ⟨k0, k1⟩ := X1.cells
  by_cases hs : spotB n s t i = true
  · have h0 := blockN_ok hs
    obtain ⟨hg, h1, h2, h3, h4⟩ := spotB_of.1 hs
    obtain ⟨g1, g2, g3, g4⟩ := geoB_iff.1 hg
    have hm1 : 0 ≤ t % n := Int.emod_nonneg _ (by omega)
    have hm2 : t % n < n := Int.emod_lt_of_pos _ (by omega)
    have HP : parN n s t = n - 1 - t % n := by unfold parN; rw [if_pos (stripeB_of.2 ⟨hg, h1, h2⟩)]
    have HPar : ∀ W : World, Calls Try.prog 74 #[.agg #[.int .i64 n, .int .i64 s], .int .i64 t] W fun e w' => e = .returned (.int .i64 (n - 1 - t % n)) ∧ Below W.heap.size W w' := by
      intro W
      rw [← HP]
      exact implParityOf_any _ _ _ _
    have HD : Hid (diskN n s t i = (n - 1 - t % n + 1 + i) % n) := by unfold Hid diskN; rw [if_pos hs]
    clear HP
    generalize t % n = r at hm1 hm2 HPar HD
    have e0 : ¬ blockN n s t i = -1 := by omega
    have e1 : ¬ n = 0 := by omega
    have e2 : (n - 1 - r + 1 + i).tmod n = (n - 1 - r + 1 + i) % n := Int.tmod_eq_emod_of_nonneg (by omega)
    have e3 : IntKind.i64.wrap (n - 1 - r + 1) = n - 1 - r + 1 := IntWalk.i64_in _ (by omega)
    have e4 : IntKind.i64.wrap (n - 1 - r + 1 + i) = n - 1 - r + 1 + i := IntWalk.i64_in _ (by omega)
    have e5 : (blockN n s t i == -1) = false := by simpa using e0
    go_wp2_with fail
    go_region_held3 (fun w' => w'.cell? ⟨w.heap.size, 0, none⟩ = some (.int .i64 n) ∧ w'.cell? ⟨w.heap.size, 1, none⟩ = some (.int .i64 s))
      (first | (exact X2.cells) | (exact X1.cells) | go_keep)
      (first
        | (go_at_call 74; refine (HPar _).mono ?_; rintro e w2 ⟨rfl, b2⟩; have B2 := Below.andThen B1.drew b2; have X2 := X1.drew.below b2 X1.lt))
    go_wp2
    go_ret
    exact ⟨ret_int HD.out.symm, B2⟩
  · have e0 : blockN n s t i = -1 := by unfold blockN; rw [if_neg hs]
    have e5 : (blockN n s t i == -1) = true := by simpa using e0
    go_wp2
    go_ret
    exact ⟨ret_int (by unfold diskN; rw [if_neg hs]), B1⟩

end Go.Proofs.Ytfimpohbpccjaaa

/-
  The walk of the program's look for the words of a stripe's blocks. Condition: the array weighs at most 2097152.
-/
namespace Go.Proofs.Ytfimpohbpccjaaa
open Go.RowKit

theorem dfill6 (x : ArrN) (s : Int) (l : List Int) (n j : Nat) (h : j < n) : (pickL x s l j ++ List.replicate (n - j) (0 : Int)).set j (l.getD (diskN x.n x.s s (j : Int)).toNat 0) = pickL x s l (j + 1) ++ List.replicate (n - (j + 1)) (0 : Int) := by
  have e : n - j = (n - (j + 1)) + 1 := by omega
  rw [List.set_append, if_neg (by rw [pickL_len]; omega), pickL_len, Nat.sub_self, e, List.replicate_succ, List.set_cons_zero, pickL_succ, List.append_assoc]
  rfl

set_option linter.unusedSimpArgs false in
set_option maxRecDepth 20000 in
set_option maxHeartbeats 3200000 in
theorem implDataOf_any (w : World) (E F G : TypeId) (x : ArrN) (am ad : Option Addr) (nm cm nd cd : Nat) (ms : List MemD) (ds : List (Int × List Int)) (s : Int) (h0 : (tMemS E F).Rd w [.slice am nm cm] ms) (h1 : (tWrS G).Rd w [.slice ad nd cd] ds) (hw : wtArr ms ds ≤ 2097152) :
    Calls Try.prog 20 #[.agg #[.int .i64 x.id, .int .i64 x.n, .int .i64 x.s, .slice am nm cm, .int .i64 x.lost, .int .i64 x.built, .int .i64 x.seq, .int .i64 x.tail, .int .i64 x.gen, .slice ad nd cd, .int .i64 x.fuse, .bool x.down, .bool x.broken], .int .i64 s] w fun e w' => ∃ a' l' c', e = .returned (.tuple #[.slice a' l' c', .bool (wordsOk6 x ms ds s)]) ∧ tIntS.Own w' w.heap.size w'.heap.size [.slice a' l' c'] (dataL6 x ms ds s) ∧ Below w.heap.size w w' := by
  obtain ⟨i0, hi, hz0, hz1, hz2⟩ := info_parts Try.info3
  have hA := new_below w (.cells #[.int .i64 x.id, .int .i64 x.n, .int .i64 x.s, .slice am nm cm, .int .i64 x.lost, .int .i64 x.built, .int .i64 x.seq, .int .i64 x.tail, .int .i64 x.gen, .slice ad nd cd, .int .i64 x.fuse, .bool x.down, .bool x.broken] 34)
  have X := Box.new w 34 #[.int .i64 x.id, .int .i64 x.n, .int .i64 x.s, .slice am nm cm, .int .i64 x.lost, .int .i64 x.built, .int .i64 x.seq, .int .i64 x.tail, .int .i64 x.gen, .slice ad nd cd, .int .i64 x.fuse, .bool x.down, .bool x.broken]
  obtain ⟨k0, k1, k2, k3, k4, k5, k6, k7, k8, k9, k10, k11, k12⟩ := X.cells13
  have zA := X.lt
  have r0 := h0.below hA
  have r1 := h1.below hA
  go_enter Try.func20, Try.ntmps20
  go_wp2_with fail
  generalize w.alloc (.cells #[.int .i64 x.id, .int .i64 x.n, .int .i64 x.s, .slice am nm cm, .int .i64 x.lost, .int .i64 x.built, .int .i64 x.seq, .int .i64 x.tail, .int .i64 x.gen, .slice ad nd cd, .int .i64 x.fuse, .bool x.down, .bool x.broken] 34) = W at hA X zA r0 r1 k0 k1 k2 k3 k4 k5 k6 k7 k8 k9 k10 k11 k12 ⊢
  refine (implWords_any _ E F G x _ _ _ _ _ _ ms ds s r0 r1 hw).mono ?_
  rintro e w1 ⟨a', l', c', rfl, o1, b1⟩
  have X1 := X.below b1 zA
  have B1 := Below.andThen hA b1
  clear k0 k1 k2 k3 k4 k5 k6 k7 k8 k9 k10 k11 k12 X b1 r0 r1
  cases hok : wordsOk6 x ms ds s
  · have HF : Hid (dataL6 x ms ds s = []) := by
      unfold Hid
      unfold wordsOk6 at hok
      unfold dataL6
      cases hk : okB6 x ms ds s
      · rfl
      · rw [hk, Bool.true_and] at hok
        rw [if_pos rfl]
        unfold data6
        rw [hok]
        rfl
    have FO := hidden ((own_ints (Owns.lit .i64 3 w1 [] 0 #[] rfl rfl (by unfold maxLen; omega))).widen (lo' := w.heap.size) B1.size (Nat.le_refl _))
    have FB := hidden (B1.alloc B1.size (.cells #[] 3))
    clear o1
    go_wp2
    refine bodyPost_ret (v := .tuple #[.slice (some ⟨w1.heap.size, 0, none⟩) 0 0, .bool false]) (by simp [results, Try.results20, go_sem]) rfl ?_
    exact ⟨_, _, _, by rw [hok], by rw [HF.out]; exact FO.out, FB.out⟩
  · have hk : okB6 x ms ds s = true := by unfold wordsOk6 at hok; simp only [Bool.and_eq_true] at hok; exact hok.1
    have hwb : wordsB x ms s = true := by unfold wordsOk6 at hok; simp only [Bool.and_eq_true] at hok; exact hok.2
    have hin : inB s 0 (x.s - 1) = true := by unfold okB6 at hk; simp only [Bool.and_eq_true] at hk; exact hk.2.2
    have hg : geoB x.n x.s = true := by unfold okB6 arrB at hk; simp only [Bool.and_eq_true] at hk; exact hk.1.1
    obtain ⟨g1, g2, g3, g4⟩ := geoB_iff.1 hg
    have hL : wordsL6 x ms ds s = words6 x ms s := by unfold wordsL6; rw [if_pos hk]; rfl
    have hD : dataL6 x ms ds s = pickL x s (words6 x ms s) (x.n.toNat - 1) := by
      unfold dataL6
      rw [if_pos hk]
      unfold data6
      rw [if_pos (show wordsB {x with broken := false} ms s = true from hwb)]
      rfl
    have hwl := words6_len hwb
    rw [hL] at o1
    generalize words6 x ms s = ps at o1 hD hwl
    obtain ⟨hr1, hln, hcap, hmax⟩ := ints_rd o1.rd
    obtain ⟨m, hm⟩ : ∃ m : Nat, x.n = (m : Int) + 1 := ⟨x.n.toNat - 1, by omega⟩
    have hm5 : m ≤ 4 := by omega
    have hm2 : 2 ≤ m := by omega
    have hl5 : l' = m + 1 := by omega
    subst hl5
    have HD : Hid (dataL6 x ms ds s = pickL x s ps m) := by unfold Hid; rw [hD]; congr 1; omega
    have HM := hidden hm
    have HOK := hidden hok
    have HIN := hidden hin
    have HG := hidden hg
    clear hD hm hwl hok hk hwb hL hin hg
    rcases hr1 with hnil | ⟨b, off, rfl, hbl, hcs⟩
    · rw [hnil] at hln; simp at hln
    have HCS := hidden hcs
    clear hcs
    obtain ⟨k0, k1, k2, k3, k4, k5, k6, k7, k8, k9, k10, k11, k12⟩ := X1.cells13
    go_wp2_with fail
    refine (perStripe_any _ x.n x.s g1 g2).mono ?_
    rintro e w2 ⟨rfl, b2⟩
    have X2 := X1.below b2 X1.lt
    have B2 := Below.andThen B1 b2
    have zb2 := b2.size
    have hC2 : ∀ i, i < ps.length → w2.cell? ⟨b, off + i, none⟩ = some (.int .i64 (ps.getD i 0)) := fun i h => (b2.cell (p := ⟨b, off + i, none⟩) hbl).trans (HCS.out i h)
    have HC2 := hidden hC2
    have hbl2 : b < w2.heap.size := Nat.lt_of_lt_of_le hbl b2.size
    clear k0 k1 k2 k3 k4 k5 k6 k7 k8 k9 k10 k11 k12 X1 b2 B1 hC2 HCS hbl o1
    have hb3 : i0.bytes * m ≤ 281474976710656 := by rw [hz2]; omega
    have hm3 : m ≤ maxLen := by unfold maxLen; omega
    rw [show x.n - 1 = (m : Int) from by have := HM.out; omega]
    go_wp2_with (at_make; refine wpList_make_full _ rfl _ _ 38 rfl w2.heap.size 3 i0 (.int .i64 0) 1 Try.underlying38 hi hz0 hz1 _ _ _ _ m rfl rfl rfl rfl hb3 hm3 (Nat.le_refl _) ?_; intro w3 hown hgrow)
    have hO : Owns .i64 3 w3 w2.heap.size (.slice (some ⟨w2.heap.size, 0, none⟩) m m) (List.replicate m 0) := by
      rw [made_ints] at hown
      unfold Owns
      rw [List.length_replicate]
      exact hown
    have hO1 := hO.own
    have hB1 : Below w2.heap.size w2 w3 := (Below.refl _ _).grown hgrow (Nat.le_refl _) (by simp)
    generalize w3.heap.size = hi1 at hO1
    clear hown hgrow hO
    go_loopw [25] (fun i wr => ∃ j : Nat, j ≤ m ∧ i = .int .i64 j ∧ Own .i64 3 wr w2.heap.size hi1 (.slice (some ⟨w2.heap.size, 0, none⟩) m m) (pickL x s ps j ++ List.replicate (m - j) 0) ∧ Below w2.heap.size w2 wr) (fun i _ => m - (intOf i).toNat)
    case atStart => exact ⟨0, Nat.zero_le _, rfl, by simpa [pickL] using hO1, hB1⟩
    case round =>
      clear hO1 hB1
      obtain ⟨j, hj, rfl, ho, hb⟩ := hrel
      by_cases hlt : j < m
      · have Xr := X2.below hb X2.lt
        obtain ⟨k0, k1, k2, k3, k4, k5, k6, k7, k8, k9, k10, k11, k12⟩ := Xr.cells13
        obtain ⟨d1, d2⟩ := disk_in (i := (j : Int)) HG.out HIN.out (by omega) (by have := HM.out; omega)
        have hfs := dfill6 x s ps m j hlt
        go_wp2_with fail
        refine (implDiskOf_any _ x.n x.s s (j : Int)).mono ?_
        rintro e w5 ⟨rfl, b5⟩
        obtain ⟨d, hd⟩ := Int.eq_ofNat_of_zero_le d1
        rw [hd] at d2 hfs ⊢
        rw [Int.toNat_natCast] at hfs
        have hdn : d < m + 1 := by have := HM.out; omega
        have hcd := (b5.cell (p := ⟨b, off + d, none⟩) (Nat.lt_of_lt_of_le hbl2 hb.size)).trans ((hb.cell (p := ⟨b, off + d, none⟩) hbl2).trans (HC2.out d (by omega)))
        have o5 := ho.below b5
        have B5 := hb.trans (b5.mono hb.size)
        obtain ⟨hcy, hfy, hst, hbt⟩ := o5.store j hlt (ps.getD d 0)
        rw [hfs] at hst
        have HST := hidden hst
        have HB : Hid (Below w2.heap.size w2 (w5.setCell ⟨w2.heap.size, j, none⟩ (.int .i64 (ps.getD d 0)))) := B5.setCell (Nat.le_refl _) _
        generalize ps.getD d 0 = y at hcd HST HB
        generalize (pickL x s ps j ++ List.replicate (m - j) 0).getD j 0 = old at hcy
        have i1 : (0 : Int) ≤ (d : Int) := by omega
        have i2 : (d : Int) < ((m + 1 : Nat) : Int) := by omega
        have i3 : (0 : Int) ≤ (j : Int) := by omega
        have i4 : (j : Int) < (m : Int) := by omega
        clear k0 k1 k2 k3 k4 k5 k6 k7 k8 k9 k10 k11 k12 Xr b5 ho hb hst hbt o5 B5 hfs d1 d2 hd
        go_wp2
        go_roundw
        case rel => exact ⟨j + 1, by omega, by go_num, HST.out, HB.out⟩
        case measure => simp [intOf]; omega
      · have ej : j = m := by omega
        subst ej
        rw [Nat.sub_self, List.replicate_zero, List.append_nil] at ho
        have FO := hidden ((own_ints ho.1).widen (lo' := w.heap.size) B2.size (Nat.le_refl _))
        have FB := hidden (B2.trans (hb.mono B2.size))
        clear ho hb
        go_wp2
        refine bodyPost_ret (v := .tuple #[.slice (some ⟨w2.heap.size, 0, none⟩) j j, .bool true]) (by simp [results, Try.results20, go_sem]) rfl ?_
        exact ⟨_, _, _, by rw [HOK.out], by rw [HD.out]; exact FO.out, FB.out⟩

end Go.Proofs.Ytfimpohbpccjaaa

/-
  The program's stripesOf walked. No condition.
-/
namespace Go.Proofs.Ytfimpohbpccjaaa
open Go.RowKit

def strN (n s : Int) : Int := if geoB n s = true then s else 0
theorem strN_of {n s : Int} (h : geoB n s = true) : strN n s = s := by unfold strN; rw [if_pos h]
theorem strN_not {n s : Int} (h : geoB n s = false) : strN n s = 0 := by unfold strN; rw [if_neg (by simp [h])]
theorem stripesOf_any (w : World) (n s : Int) : Calls Try.prog 49 #[.agg #[.int .i64 n, .int .i64 s]] w fun e w' => e = .returned (.int .i64 (strN n s)) ∧ Below w.heap.size w w' := by
  have hA := new_below w (.cells #[.int .i64 n, .int .i64 s] 30)
  have X := Gbox.new w 30 n s
  obtain ⟨k0, k1⟩ := X.cells
  have zA := X.lt
  go_enter Try.func49, Try.ntmps49
  go_wp2_with fail
  refine (implGeoOk_any _ _ _).mono ?_
  rintro e w1 ⟨rfl, b1⟩
  have X1 := X.below b1 zA
  obtain ⟨q0, q1⟩ := X1.cells
  have FB := hidden (Below.andThen hA b1)
  clear k0 k1 X b1 hA zA
  cases hg : geoB n s
  · have HS := hidden (strN_not hg)
    go_wp2
    go_ret
    exact ⟨ret_int (by rw [HS.out]), FB.out⟩
  · have HS := hidden (strN_of hg)
    go_wp2
    go_ret
    exact ⟨ret_int (by rw [HS.out]), FB.out⟩

end Go.Proofs.Ytfimpohbpccjaaa

/-
  The program's Durable walked. Condition: the array weighs at most 2097152.
-/
namespace Go.Proofs.Ytfimpohbpccjaaa
open Go.RowKit

set_option maxRecDepth 20000 in
set_option maxHeartbeats 1600000 in
theorem implDurable_any (w : World) (E F G : TypeId) (x : ArrN) (am ad : Option Addr) (nm cm nd cd : Nat) (ms : List MemD) (ds : List (Int × List Int))  (h0 : (tMemS E F).Rd w [.slice am nm cm] ms) (h1 : (tWrS G).Rd w [.slice ad nd cd] ds) (hw : wtArr ms ds ≤ 2097152) :
    Calls Try.prog 24 #[.agg #[.int .i64 x.id, .int .i64 x.n, .int .i64 x.s, .slice am nm cm, .int .i64 x.lost, .int .i64 x.built, .int .i64 x.seq, .int .i64 x.tail, .int .i64 x.gen, .slice ad nd cd, .int .i64 x.fuse, .bool x.down, .bool x.broken]] w fun e w' => ∃ a' l' c', e = .returned (.slice a' l' c') ∧ tIntS.Own w' w.heap.size w'.heap.size [.slice a' l' c'] (dur10 x ms ds) ∧ Below w.heap.size w w' := by
  have hwm : wtMemS ms ≤ 2097152 := by unfold wtArr at hw; omega
  obtain ⟨hl, hcp, hcm⟩ := row_length h0
  have hA := new_below w (.cells #[.int .i64 x.id, .int .i64 x.n, .int .i64 x.s, .slice am nm cm, .int .i64 x.lost, .int .i64 x.built, .int .i64 x.seq, .int .i64 x.tail, .int .i64 x.gen, .slice ad nd cd, .int .i64 x.fuse, .bool x.down, .bool x.broken] 34)
  have X := Box.new w 34 #[.int .i64 x.id, .int .i64 x.n, .int .i64 x.s, .slice am nm cm, .int .i64 x.lost, .int .i64 x.built, .int .i64 x.seq, .int .i64 x.tail, .int .i64 x.gen, .slice ad nd cd, .int .i64 x.fuse, .bool x.down, .bool x.broken]
  have zA := X.lt
  obtain ⟨k0, k1, k2, k3, k4, k5, k6, k7, k8, k9, k10, k11, k12⟩ := X.cells13
  have r0 := h0.below hA
  have r1 := h1.below hA
  obtain ⟨i0, hi, hz0, hz1, hz2⟩ := info_parts Try.info3
  have X' := X.alloc (.cells #[] 3)
  clear k0 k1 k2 k3 k4 k5 k6 k7 k8 k9 k10 k11 k12
  obtain ⟨k0, k1, k2, k3, k4, k5, k6, k7, k8, k9, k10, k11, k12⟩ := X'.cells13
  go_enter Try.func24, Try.ntmps24
  go_wp2_with fail
  have hsz : (w.alloc (.cells #[.int .i64 x.id, .int .i64 x.n, .int .i64 x.s, .slice am nm cm, .int .i64 x.lost, .int .i64 x.built, .int .i64 x.seq, .int .i64 x.tail, .int .i64 x.gen, .slice ad nd cd, .int .i64 x.fuse, .bool x.down, .bool x.broken] 34)).heap.size = w.heap.size + 1 := by simp
  have ZW := hidden hsz
  clear hsz X'
  clear k0 k1 k2 k3 k4 k5 k6 k7 k8 k9 k10 k11 k12
  generalize w.alloc (.cells #[.int .i64 x.id, .int .i64 x.n, .int .i64 x.s, .slice am nm cm, .int .i64 x.lost, .int .i64 x.built, .int .i64 x.seq, .int .i64 x.tail, .int .i64 x.gen, .slice ad nd cd, .int .i64 x.fuse, .bool x.down, .bool x.broken] 34) = W at hA X zA r0 r1 ZW ⊢
  have hO : Owns .i64 3 (W.alloc (.cells #[] 3)) W.heap.size (.slice (some ⟨W.heap.size, 0, none⟩) 0 0) [] := Owns.lit .i64 3 W [] 0 #[] rfl rfl (by unfold maxLen; omega)
  have hBW : Below W.heap.size W (W.alloc (.cells #[] 3)) := (Below.refl _ _).alloc (Nat.le_refl _) _
  refine (stripesOf_any _ x.n x.s).mono ?_
  rintro e w2 ⟨rfl, b2⟩
  have B2 := hBW.trans (b2.mono hBW.size)
  have o2 := hO.below b2 (Nat.le_refl _)
  clear b2 hBW hO
  obtain ⟨n, hn⟩ : ∃ n : Nat, strN x.n x.s = (n : Int) := by
    by_cases hg : geoB x.n x.s = true
    · obtain ⟨g1, g2, g3, g4⟩ := geoB_iff.1 hg
      exact ⟨x.s.toNat, by rw [strN_of hg]; omega⟩
    · exact ⟨0, by rw [strN_not (by simpa using hg)]; rfl⟩
  have hn8 : n ≤ 8 := by
    by_cases hg : geoB x.n x.s = true
    · obtain ⟨g1, g2, g3, g4⟩ := geoB_iff.1 hg
      rw [strN_of hg] at hn; omega
    · rw [strN_not (by simpa using hg)] at hn; omega
  have HNA : Hid (arrB x ms ds = true → x.s.toNat = n) := by
    intro ha
    have hg : geoB x.n x.s = true := by unfold arrB at ha; simp only [Bool.and_eq_true] at ha; exact ha.1
    rw [strN_of hg] at hn
    obtain ⟨g1, g2, g3, g4⟩ := geoB_iff.1 hg
    omega
  have HNZ : Hid (arrB x ms ds = false → 0 < n → wordsOk6 x ms ds 0 = false) := by
    intro ha _
    unfold wordsOk6 okB6
    simp [ha]
  rw [hn]
  clear hn
  go_wp2
  rw [ZW.out] at o2
  go_loopw [3, 11] (fun v i wr => ∃ j : Nat, j ≤ n ∧ i = .int .i64 j ∧ Owns .i64 3 wr W.heap.size v (durJ x ms ds j) ∧ durOk x ms ds j = true ∧ Below W.heap.size W wr) (fun _ i _ => n - (intOf i).toNat)
  case atStart => exact ⟨0, Nat.zero_le _, rfl, by first | exact o2 | (rw [ZW.out]; exact o2), rfl, B2⟩
  case round =>
    clear o2 B2
    obtain ⟨j, hj, rfl, ho, hk, hb⟩ := hrel
    have zB := hA.size
    have Xr := X.below hb zA
    have zs := hb.size
    by_cases hlt : j < n
    · obtain ⟨k0, k1, k2, k3, k4, k5, k6, k7, k8, k9, k10, k11, k12⟩ := Xr.cells13
      have hlt' : (j : Int) < (n : Int) := by omega
      have HK := hidden hk
      clear hk
      go_wp2_with fail
      refine (implDataOf_any _ E F G x _ _ _ _ _ _ ms ds (j : Int) (r0.below hb) (r1.below hb) hw).mono ?_
      rintro e w3 ⟨a3, l3, c3, rfl, d3, b3⟩
      have B3 := hb.trans (b3.mono hb.size)
      have o3 := ho.below b3 (Nat.le_refl _)
      have z3 := B3.size
      clear k0 k1 k2 k3 k4 k5 k6 k7 k8 k9 k10 k11 k12 Xr b3 hb ho
      have hle := durJ_le x ms ds j
      have hld := dataL6_le x ms ds (j : Int)
      cases ht : wordsOk6 x ms ds (j : Int)
      · have FB3 := Below.andThen hA B3
        have HF : Hid (dur10 x ms ds = []) := (by
                    cases ha : arrB x ms ds
                    · exact dur_no ha
                    · exact dur_bad (durOk_bad ht (by have := HNA.out ha; omega)))
        have FO := hidden ((own_ints (Owns.lit .i64 3 w3 [] 0 #[] rfl rfl (by unfold maxLen; omega))).widen (lo' := w.heap.size) (FB3).size (Nat.le_refl _))
        have FB := hidden ((FB3).alloc (FB3).size (.cells #[] 3))
        go_wp2
        refine bodyPost_ret (v := .slice (some ⟨w3.heap.size, 0, none⟩) 0 0) (by simp [results, Try.results24, go_sem]) rfl ?_
        exact ⟨_, _, _, rfl, by rw [HF.out]; exact FO.out, FB.out⟩
      · obtain ⟨ad3, rfl, hl3, hr3⟩ := own_some10 d3 (data_pos ht)
        have HOK : Hid (durOk x ms ds (j + 1) = true) := by unfold Hid; rw [durOk_succ, HK.out, ht]; rfl
        have HS := hidden (durJ_succ x ms ds j)
        subst hl3
        clear ht d3
        generalize dataL6 x ms ds (j : Int) = ys at HS hr3 hld ⊢
        generalize durJ x ms ds j = zz at HS hle o3 ⊢
        go_wp2_with (at_builtin; refine wpList_app .i64 rfl _ _ 38 rfl W.heap.size 3 i0 (.int .i64 0) 8 Try.underlying38 hi hz0 hz1 hz2 rfl _ zz rfl o3 ad3 ys.length c3 ys rfl rfl hr3 ?h1 ?h2 ?h3 ?_)
        case h1 => unfold maxLen; omega
        case h2 => omega
        case h3 => omega
        intro v' w5 o5 b5
        have B5 := hidden (B3.trans b5)
        rw [← HS.out] at o5
        have O5 := hidden o5
        clear b5 o5 o3 B3
        go_wp2
        go_roundw
        case rel => exact ⟨j + 1, by omega, by go_num, O5.out, HOK.out, B5.out⟩
        case measure => simp [intOf]; omega
    · have ej : j = n := by omega
      subst ej
      have HV : Hid (dur10 x ms ds = durJ x ms ds j) := by
        unfold Hid
        cases ha : arrB x ms ds
        · rw [dur_no ha]
          rcases Nat.eq_zero_or_pos j with h | h
          · subst h; rfl
          · have h1 := HNZ.out ha h
            rw [durOk_bad (j := 0) h1 h] at hk
            cases hk
        · have := HNA.out ha
          rw [dur_of ha (by rw [this]; exact hk), this]
      have FB := hidden (Below.andThen hA hb)
      obtain ⟨av, cv, hv, _⟩ := ho.shape
      have FO := hidden ((own_ints ho).widen (lo' := w.heap.size) (by omega) (Nat.le_refl _))
      subst hv
      clear hlt hb ho hk
      go_wp2
      refine bodyPost_ret (v := .slice av (durJ x ms ds j).length cv) (by simp [results, Try.results24, go_sem]) rfl ?_
      exact ⟨_, _, _, rfl, by rw [HV.out]; exact FO.out, FB.out⟩

end Go.Proofs.Ytfimpohbpccjaaa

/-
  The walk of the exact law of Durable: at every array it answers true, and nothing that was there has turned. No condition.
-/
namespace Go.Proofs.Ytfimpohbpccjaaa
open Go.RowKit

set_option linter.unusedSimpArgs false in
set_option maxRecDepth 20000 in
set_option maxHeartbeats 4000000 in
theorem fnExactDurable_walk (x : ArrN) (am ad : Option Addr) (nm cm nd cd : Nat) (ms : List MemD) (ds : List (Int × List Int)) (w : World) (h0 : (tMemS 119 78).Rd w [.slice am nm cm] ms) (h1 : (tWrS 81).Rd w [.slice ad nd cd] ds) :
    Calls Try.prog 7 #[.agg #[.int .i64 x.id, .int .i64 x.n, .int .i64 x.s, .slice am nm cm, .int .i64 x.lost, .int .i64 x.built, .int .i64 x.seq, .int .i64 x.tail, .int .i64 x.gen, .slice ad nd cd, .int .i64 x.fuse, .bool x.down, .bool x.broken]] w fun e w' => e = .returned (.bool true) ∧ Below w.heap.size w w' := by
  have hA := new_below w (.cells #[.int .i64 x.id, .int .i64 x.n, .int .i64 x.s, .slice am nm cm, .int .i64 x.lost, .int .i64 x.built, .int .i64 x.seq, .int .i64 x.tail, .int .i64 x.gen, .slice ad nd cd, .int .i64 x.fuse, .bool x.down, .bool x.broken] 27)
  have xm := Box.new w 27 #[.int .i64 x.id, .int .i64 x.n, .int .i64 x.s, .slice am nm cm, .int .i64 x.lost, .int .i64 x.built, .int .i64 x.seq, .int .i64 x.tail, .int .i64 x.gen, .slice ad nd cd, .int .i64 x.fuse, .bool x.down, .bool x.broken]
  have z0 := xm.lt
  have B0 := hidden hA
  have BR0 := hidden xm
  obtain ⟨l0, l1, l2, l3, l4, l5, l6, l7, l8, l9, l10, l11, l12⟩ := xm.cells13
  go_enter Try.func7, Try.ntmps7
  go_wp2_with fail
  generalize w.alloc (.cells #[.int .i64 x.id, .int .i64 x.n, .int .i64 x.s, .slice am nm cm, .int .i64 x.lost, .int .i64 x.built, .int .i64 x.seq, .int .i64 x.tail, .int .i64 x.gen, .slice ad nd cd, .int .i64 x.fuse, .bool x.down, .bool x.broken] 27) = w0 at hA xm z0 B0 BR0 l0 l1 l2 l3 l4 l5 l6 l7 l8 l9 l10 l11 l12 ⊢
  clear hA xm
  refine (szArr_any _ 119 78 81 x _ _ _ _ _ _ ms ds _ (h0.below B0.out) (h1.below B0.out) (by omega) (by omega)).mono ?_
  rintro e w1 ⟨rfl, hb1⟩
  clear l0 l1 l2 l3 l4 l5 l6 l7 l8 l9 l10 l11 l12
  have B1 := hidden (Below.andThen B0.out hb1)
  have BR1 := hidden (BR0.out.below hb1 (by omega))
  have z1 := hb1.size
  clear B0 BR0 hb1
  by_cases hwt : (wtArr ms ds : Int) ≤ 1048576
  · have hq := leftOf_pos hwt
    have hwt' : wtArr ms ds ≤ 1048576 := by omega
    have hwt2 : wtArr ms ds ≤ 2097152 := by omega
    have hgl := dur10_le x ms ds
    generalize hP : dur10 x ms ds = ps at hgl
    generalize hn : ps.length = pl at hgl
    have HP := hidden hP
    have HN := hidden hn
    clear hP hn
    have hd : decide (ps = ps) = true := by simp
    have hwtc : wtArr ms ds ≤ 1048576 := hwt'
    obtain ⟨l0, l1, l2, l3, l4, l5, l6, l7, l8, l9, l10, l11, l12⟩ := BR1.out.cells13
    go_wp2_with fail
    refine (toArr_any _ 119 78 81 x _ _ _ _ _ _ ms ds (h0.below B1.out) (h1.below B1.out) hwt').mono ?_
    rintro e w2 ⟨bm2, bd2, rfl, om2, od2, ya2, yb2, hb2⟩
    clear l0 l1 l2 l3 l4 l5 l6 l7 l8 l9 l10 l11 l12
    have B2 := hidden (Below.andThen B1.out hb2)
    have BR2 := hidden (BR1.out.below hb2 (by omega))
    have z2 := hb2.size
    clear B1 BR1 hb2
    have Cm2 := hidden om2
    clear om2
    have Cd2 := hidden od2
    clear od2
    go_wp2_with fail
    refine (specDurable_any _ 114 54 83 x _ _ _ _ _ _ ms ds Cm2.out.rd Cd2.out.rd hwt2).mono ?_
    rintro e w3 ⟨a3, l3, c3, rfl, o3, hb3⟩
    obtain ⟨rfl, o3'⟩ := own_len6 o3 HP.out HN.out
    clear o3
    have B3 := hidden (Below.andThen B2.out hb3)
    have BR3 := hidden (BR2.out.below hb3 (by omega))
    have Cm3 := hidden (Cm2.out.below hb3)
    have Cd3 := hidden (Cd2.out.below hb3)
    have z3 := hb3.size
    clear B2 BR2 Cm2 Cd2 hb3
    have W3 := hidden o3'
    clear o3'
    clear Cm3
    clear Cd3
    obtain ⟨l0, l1, l2, l3, l4, l5, l6, l7, l8, l9, l10, l11, l12⟩ := BR3.out.cells13
    go_wp2_with fail
    refine (toArr_any _ 119 78 81 x _ _ _ _ _ _ ms ds (h0.below B3.out) (h1.below B3.out) hwt').mono ?_
    rintro e w4 ⟨bm4, bd4, rfl, om4, od4, ya4, yb4, hb4⟩
    clear l0 l1 l2 l3 l4 l5 l6 l7 l8 l9 l10 l11 l12
    have B4 := hidden (Below.andThen B3.out hb4)
    have BR4 := hidden (BR3.out.below hb4 (by omega))
    have W4 := hidden (W3.out.below hb4)
    have z4 := hb4.size
    clear B3 BR3 W3 hb4
    have Dm4 := hidden om4
    clear om4
    have Dd4 := hidden od4
    clear od4
    have ba : Below w4.heap.size w4 (w4.alloc (.cells #[.int .i64 x.id, .int .i64 x.n, .int .i64 x.s, .slice (some ⟨bm4, 0, none⟩) nm nm, .int .i64 x.lost, .int .i64 x.built, .int .i64 x.seq, .int .i64 x.tail, .int .i64 x.gen, .slice (some ⟨bd4, 0, none⟩) nd nd, .int .i64 x.fuse, .bool x.down, .bool x.broken] 34)) := (Below.refl _ _).alloc (Nat.le_refl _) _
    have xb := Box.new w4 34 #[.int .i64 x.id, .int .i64 x.n, .int .i64 x.s, .slice (some ⟨bm4, 0, none⟩) nm nm, .int .i64 x.lost, .int .i64 x.built, .int .i64 x.seq, .int .i64 x.tail, .int .i64 x.gen, .slice (some ⟨bd4, 0, none⟩) nd nd, .int .i64 x.fuse, .bool x.down, .bool x.broken]
    have zx := xb.lt
    have B5 := hidden (Below.andThen B4.out ba)
    have BR5 := hidden (BR4.out.below ba (by omega))
    have W5 := hidden (W4.out.below ba)
    have Dm5 := hidden (Dm4.out.below ba)
    have Dd5 := hidden (Dd4.out.below ba)
    have z5 := ba.size
    clear B4 BR4 W4 Dm4 Dd4 ba
    have BX5 := hidden xb
    clear xb
    obtain ⟨q0, q1, q2, q3, q4, q5, q6, q7, q8, q9, q10, q11, q12⟩ := BX5.out.cells13
    go_wp2_with fail
    generalize w4.alloc (.cells #[.int .i64 x.id, .int .i64 x.n, .int .i64 x.s, .slice (some ⟨bm4, 0, none⟩) nm nm, .int .i64 x.lost, .int .i64 x.built, .int .i64 x.seq, .int .i64 x.tail, .int .i64 x.gen, .slice (some ⟨bd4, 0, none⟩) nd nd, .int .i64 x.fuse, .bool x.down, .bool x.broken] 34) = w5 at B5 BR5 W5 Dm5 Dd5 BX5 z5 zx q0 q1 q2 q3 q4 q5 q6 q7 q8 q9 q10 q11 q12 ⊢
    refine (implDurable_any _ 114 54 83 x _ _ _ _ _ _ ms ds Dm5.out.rd Dd5.out.rd hwt2).mono ?_
    rintro e w6 ⟨a6, l6, c6, rfl, o6, hb6⟩
    obtain ⟨rfl, o6'⟩ := own_len6 o6 HP.out HN.out
    clear o6
    clear q0 q1 q2 q3 q4 q5 q6 q7 q8 q9 q10 q11 q12
    have B6 := hidden (Below.andThen B5.out hb6)
    have BR6 := hidden (BR5.out.below hb6 (by omega))
    have W6 := hidden (W5.out.below hb6)
    have Dm6 := hidden (Dm5.out.below hb6)
    have Dd6 := hidden (Dd5.out.below hb6)
    have BX6 := hidden (BX5.out.below hb6 (by omega))
    have z6 := hb6.size
    clear B5 BR5 W5 Dm5 Dd5 BX5 hb6
    have G6 := hidden o6'
    clear o6'
    go_wp2_with fail
    refine (eqIntS_any _ _ _ _ _ _ _ ps ps HN.out HN.out (ints_rd G6.out.rd).1 (ints_rd W6.out.rd).1 (by omega)).mono ?_
    rintro e w7 ⟨rfl, hs7⟩
    have B7 := hidden (Below.andSame B6.out hs7)
    have BR7 := hidden (BR6.out.same hs7)
    have W7 := hidden (W6.out.same hs7)
    have Dm7 := hidden (Dm6.out.same hs7)
    have Dd7 := hidden (Dd6.out.same hs7)
    have BX7 := hidden (BX6.out.same hs7)
    have G7 := hidden (G6.out.same hs7)
    have z7 := Nat.le_of_eq hs7.size.symm
    clear B6 BR6 W6 Dm6 Dd6 BX6 G6 hs7
    obtain ⟨y0, y1, y2, y3, y4, y5, y6, y7, y8, y9, y10, y11, y12⟩ := BX7.out.cells13
    obtain ⟨l0, l1, l2, l3, l4, l5, l6, l7, l8, l9, l10, l11, l12⟩ := BR7.out.cells13
    have zl := BR7.out.lt
    have zy := BX7.out.lt
    go_wp2_with fail
    refine wp_region_held_drew (S := fun w' => (w'.cell? ⟨w4.heap.size, 0, none⟩ = some (.int .i64 x.id) ∧ w'.cell? ⟨w4.heap.size, 1, none⟩ = some (.int .i64 x.n) ∧ w'.cell? ⟨w4.heap.size, 2, none⟩ = some (.int .i64 x.s) ∧ w'.cell? ⟨w4.heap.size, 3, none⟩ = some (.slice (some ⟨bm4, 0, none⟩) nm nm) ∧ w'.cell? ⟨w4.heap.size, 4, none⟩ = some (.int .i64 x.lost) ∧ w'.cell? ⟨w4.heap.size, 5, none⟩ = some (.int .i64 x.built) ∧ w'.cell? ⟨w4.heap.size, 6, none⟩ = some (.int .i64 x.seq) ∧ w'.cell? ⟨w4.heap.size, 7, none⟩ = some (.int .i64 x.tail) ∧ w'.cell? ⟨w4.heap.size, 8, none⟩ = some (.int .i64 x.gen) ∧ w'.cell? ⟨w4.heap.size, 9, none⟩ = some (.slice (some ⟨bd4, 0, none⟩) nd nd) ∧ w'.cell? ⟨w4.heap.size, 10, none⟩ = some (.int .i64 x.fuse) ∧ w'.cell? ⟨w4.heap.size, 11, none⟩ = some (.bool x.down) ∧ w'.cell? ⟨w4.heap.size, 12, none⟩ = some (.bool x.broken)) ∧ w'.cell? ⟨w.heap.size, 0, none⟩ = some (.int .i64 x.id) ∧ w'.cell? ⟨w.heap.size, 1, none⟩ = some (.int .i64 x.n) ∧ w'.cell? ⟨w.heap.size, 2, none⟩ = some (.int .i64 x.s) ∧ w'.cell? ⟨w.heap.size, 3, none⟩ = some (.slice am nm cm) ∧ w'.cell? ⟨w.heap.size, 4, none⟩ = some (.int .i64 x.lost) ∧ w'.cell? ⟨w.heap.size, 5, none⟩ = some (.int .i64 x.built) ∧ w'.cell? ⟨w.heap.size, 6, none⟩ = some (.int .i64 x.seq) ∧ w'.cell? ⟨w.heap.size, 7, none⟩ = some (.int .i64 x.tail) ∧ w'.cell? ⟨w.heap.size, 8, none⟩ = some (.int .i64 x.gen) ∧ w'.cell? ⟨w.heap.size, 9, none⟩ = some (.slice ad nd cd) ∧ w'.cell? ⟨w.heap.size, 10, none⟩ = some (.int .i64 x.fuse) ∧ w'.cell? ⟨w.heap.size, 11, none⟩ = some (.bool x.down) ∧ w'.cell? ⟨w.heap.size, 12, none⟩ = some (.bool x.broken)) (by kernel_rfl) ?_ (fun hHeld => ?_)
    · exact ⟨BX7.out.cells13, BR7.out.cells13⟩
    refine held_take (i := 0) (v := ?_) rfl (by kernel_rfl) (by kernel_rfl) (by kernel_rfl) (fun _ _ _ h => h) (by kernel_rfl) ?_ hHeld ?_
    rotate_left 1
    · (intro w hSw; (try dsimp only at hSw); go_split_ands; go_simp; first | done | with_reducible rfl)
    simp only [Act.put, List.setIfInBounds_toArray, List.set_cons_zero, List.set_cons_succ]
    refine held_take (i := 1) (v := ?_) rfl (by kernel_rfl) (by kernel_rfl) (by kernel_rfl) (fun _ _ _ h => h) (by kernel_rfl) ?_ hHeld ?_
    rotate_left 1
    · (intro w hSw; (try dsimp only at hSw); go_split_ands; go_simp; first | done | with_reducible rfl)
    simp only [Act.put, List.setIfInBounds_toArray, List.set_cons_zero, List.set_cons_succ]
    refine held_one (i := 2) (by kernel_rfl) rfl (by kernel_rfl) (fun K hK => ?_)
    go_simp
    refine (toArr_any _ 119 78 81 x _ _ _ _ _ _ ms ds (h0.below B7.out).drew (h1.below B7.out).drew hwt').mono ?_
    rintro e w8 ⟨bm8, bd8, rfl, om8, od8, ya8, yb8, hb8⟩
    have hb8' : Below w7.heap.size w7 w8 := (Below.refl w7.heap.size w7).drew.trans hb8
    go_wp2_with fail
    clear hHeld
    refine hK.out _ _ ?_ (fun hHeld => ?_)
    · exact ⟨(BX7.out.below hb8' zy).cells13, (BR7.out.below hb8' zl).cells13⟩
    clear hK K
    refine held_one (i := 3) (by kernel_rfl) rfl (by kernel_rfl) (fun K hK => ?_)
    go_simp
    refine (eqArr_same _ 114 114 54 54 83 83 x _ _ _ _ _ _ _ _ _ _ _ _ ms ds (Dm7.out.below hb8').rd (Dd7.out.below hb8').rd om8.rd od8.rd hwt2).mono ?_
    rintro e w9 ⟨rfl, hb9⟩
    have hb9' : Below w7.heap.size w7 w9 := Below.andThen hb8' hb9
    go_wp2_with fail
    clear hHeld
    refine hK.out _ _ ?_ (fun hHeld => ?_)
    · exact ⟨(BX7.out.below hb9' zy).cells13, (BR7.out.below hb9' zl).cells13⟩
    clear hK K
    refine held_take (i := 4) (v := ?_) rfl (by kernel_rfl) (by kernel_rfl) (by kernel_rfl) (fun _ _ _ h => h) (by kernel_rfl) ?_ hHeld ?_
    rotate_left 1
    · (intro w hSw; (try dsimp only at hSw); go_split_ands; go_simp; first | done | with_reducible rfl)
    simp only [Act.put, List.setIfInBounds_toArray, List.set_cons_zero, List.set_cons_succ]
    refine wpAnyH_done (by kernel_rfl) ?_ _
    clear hHeld
    clear y0 y1 y2 y3 y4 y5 y6 y7 y8 y9 y10 y11 y12 l0 l1 l2 l3 l4 l5 l6 l7 l8 l9 l10 l11 l12
    clear zl zy om8 od8 ya8 yb8 hb8 hb9 hb8'
    have B9 := hidden (Below.andThen B7.out hb9')
    have BR9 := hidden (BR7.out.below hb9' (by omega))
    have W9 := hidden (W7.out.below hb9')
    have Dm9 := hidden (Dm7.out.below hb9')
    have Dd9 := hidden (Dd7.out.below hb9')
    have BX9 := hidden (BX7.out.below hb9' (by omega))
    have G9 := hidden (G7.out.below hb9')
    have z9 := hb9'.size
    clear B7 BR7 W7 Dm7 Dd7 BX7 G7 hb9'
    obtain ⟨q0, q1, q2, q3, q4, q5, q6, q7, q8, q9, q10, q11, q12⟩ := BX9.out.cells13
    go_wp2_with fail
    refine (markArr_own _ _ _ _ x _ _ _ _ _ _ ms ds Dm9.out Dd9.out (by omega) (by omega) (by omega) hwt2).mono ?_
    rintro e w10 ⟨rfl, _, _, hb10⟩
    clear q0 q1 q2 q3 q4 q5 q6 q7 q8 q9 q10 q11 q12
    clear Dm9
    clear Dd9
    clear BX9
    have B10 := hidden (Below.andBut B9.out hb10 (by omega))
    have BR10 := hidden (BR9.out.kept (hb10.block _ (by omega) (by omega)))
    have W10 := hidden (W9.out.but hb10 (by omega))
    have G10 := hidden (G9.out.but hb10 (by omega))
    have z10 := hb10.size
    clear B9 BR9 W9 G9 hb10
    have hcn : (0 : Int) ≤ 1 + (cntMS ms : Int) + (cntWS ds : Int) := by omega
    generalize 1 + (cntMS ms : Int) + (cntWS ds : Int) = cn at hcn ⊢
    go_wp2_with fail
    refine (eqIntS_any _ _ _ _ _ _ _ ps ps HN.out HN.out (ints_rd G10.out.rd).1 (ints_rd W10.out.rd).1 (by omega)).mono ?_
    rintro e w11 ⟨rfl, hs11⟩
    have B11 := hidden (Below.andSame B10.out hs11)
    have BR11 := hidden (BR10.out.same hs11)
    have W11 := hidden (W10.out.same hs11)
    have G11 := hidden (G10.out.same hs11)
    have z11 := Nat.le_of_eq hs11.size.symm
    clear B10 BR10 W10 G10 hs11
    go_wp2_with fail
    obtain ⟨fpG, mG, rG⟩ := G11.out.mine
    refine (markIntS_fp _ _ _ _ ps _ fpG mG (by omega) (by omega) (by omega)).mono ?_
    rintro e w12 ⟨rfl, m12, t12⟩
    clear G11
    have hb12 := t12.but rG
    have g12 := m12.own rG
    clear mG m12 t12 rG
    have B12 := hidden (Below.andBut B11.out hb12 (by omega))
    have BR12 := hidden (BR11.out.kept (hb12.block _ (by omega) (by omega)))
    have W12 := hidden (W11.out.but hb12 (by omega))
    have z12 := hb12.size
    clear B11 BR11 W11 hb12
    have G12 := hidden g12
    clear g12
    go_wp2_with fail
    refine (heldIntS_any _ _ _ _ _ (ints_rd G12.out.rd).1 (by omega) (by omega) (by omega)).mono ?_
    rintro e w13 ⟨rfl, hs13⟩
    have B13 := hidden (Below.andSame B12.out hs13)
    have BR13 := hidden (BR12.out.same hs13)
    have W13 := hidden (W12.out.same hs13)
    have G13 := hidden (G12.out.same hs13)
    have z13 := Nat.le_of_eq hs13.size.symm
    clear B12 BR12 W12 G12 hs13
    obtain ⟨l0, l1, l2, l3, l4, l5, l6, l7, l8, l9, l10, l11, l12⟩ := BR13.out.cells13
    go_wp2_with fail
    refine (toArr_any _ 119 78 81 x _ _ _ _ _ _ ms ds (h0.below B13.out) (h1.below B13.out) hwt').mono ?_
    rintro e w14 ⟨bm14, bd14, rfl, om14, od14, ya14, yb14, hb14⟩
    clear l0 l1 l2 l3 l4 l5 l6 l7 l8 l9 l10 l11 l12
    have B14 := hidden (Below.andThen B13.out hb14)
    have BR14 := hidden (BR13.out.below hb14 (by omega))
    have W14 := hidden (W13.out.below hb14)
    have G14 := hidden (G13.out.below hb14)
    have z14 := hb14.size
    clear B13 BR13 W13 G13 hb14
    have Dm14 := hidden om14
    clear om14
    have Dd14 := hidden od14
    clear od14
    go_wp2_with fail
    refine (implDurable_any _ 114 54 83 x _ _ _ _ _ _ ms ds Dm14.out.rd Dd14.out.rd hwt2).mono ?_
    rintro e w15 ⟨a15, l15, c15, rfl, o15, hb15⟩
    obtain ⟨rfl, o15'⟩ := own_len6 o15 HP.out HN.out
    clear o15
    have B15 := hidden (Below.andThen B14.out hb15)
    have BR15 := hidden (BR14.out.below hb15 (by omega))
    have W15 := hidden (W14.out.below hb15)
    have G15 := hidden (G14.out.below hb15)
    have Dm15 := hidden (Dm14.out.below hb15)
    have Dd15 := hidden (Dd14.out.below hb15)
    have z15 := hb15.size
    clear B14 BR14 W14 G14 Dm14 Dd14 hb15
    have H15 := hidden o15'
    clear o15'
    clear Dm15
    clear Dd15
    go_wp2_with fail
    refine (eqIntS_any _ _ _ _ _ _ _ ps ps HN.out HN.out (ints_rd H15.out.rd).1 (ints_rd W15.out.rd).1 (by omega)).mono ?_
    rintro e w16 ⟨rfl, hs16⟩
    have B16 := hidden (Below.andSame B15.out hs16)
    have BR16 := hidden (BR15.out.same hs16)
    have W16 := hidden (W15.out.same hs16)
    have G16 := hidden (G15.out.same hs16)
    have H16 := hidden (H15.out.same hs16)
    have z16 := Nat.le_of_eq hs16.size.symm
    clear B15 BR15 W15 G15 H15 hs16
    clear H16
    clear W16
    go_wp2_with fail
    refine (heldIntS_any _ _ _ _ _ (ints_rd G16.out.rd).1 (by omega) (by omega) (by omega)).mono ?_
    rintro e w17 ⟨rfl, hs17⟩
    have B17 := hidden (Below.andSame B16.out hs17)
    have BR17 := hidden (BR16.out.same hs17)
    have G17 := hidden (G16.out.same hs17)
    have z17 := Nat.le_of_eq hs17.size.symm
    clear B16 BR16 G16 hs17
    go_wp2
    go_ret
    exact ⟨rfl, B17.out⟩
  · have hq := leftOf_neg (left := 1048576) (wt := wtArr ms ds) (by omega)
    go_wp2
    go_ret
    exact ⟨rfl, B1.out⟩

end Go.Proofs.Ytfimpohbpccjaaa

/-
  What the row's reading says of arguments with depth, in these texts' own words. No condition.
-/
namespace Go.Proofs.Ytfimpohbpccjaaa
open Go.RowKit Go.ChangeShapes Go.WideShapes Go.ChangeAt Go.Joins Go.Deep

section
variable {H : Type} {enc : TypeId × Value → H} {P : Program} {w : World} {held : Bool}

theorem rdInts_of {t q : TypeId} {fuel : Nat} {v : Value} {x : DataW H × List MemPlace} (ht : P.underlying t = some (.slice q)) (hq : P.underlying q = some (.int .i64)) (cq : P.cellsOf q = 1)
    (h : DataW.trod enc P w 0 (fun _ => true) held fuel t [v] = some x) : ∃ zs, tIntS.Rd w [v] zs := by
  rcases open_ints ht hq cq h with ⟨hcs, _⟩ | ⟨a, len, cap, zs, hcs, _, hl, hm, hz, _, hcell, hwz⟩
  · simp at hcs
    subst hcs
    exact ⟨[], ints_rd_of (.inl rfl) (Nat.le_refl _) (by simp) (fun _ => rfl)⟩
  · simp at hcs
    subst hcs
    have hr : IsRow .i64 w (some a) len cap zs := .inr ⟨_, rfl, hl, hm, by simpa using hz, hcell, hwz⟩
    obtain ⟨h1, h2, _, _⟩ := hr.reads
    refine ⟨zs.take len, ?_⟩
    have := ints_rd_of (E := 3) (cap := cap) h1 (by omega) (by unfold maxLen at hm; omega) (by simp)
    rw [h2] at this
    exact this

/-- A slice by its elements. -/
theorem rd_row {t : Ty} {E : TypeId} {a : Addr} {len cap : Nat} (hl : len ≤ cap) (hm : cap ≤ 9223372036854775807) (cs : Nat → List Value) (hn : 0 < t.n) (hcl : ∀ i, i < len → (cs i).length = t.n)
    (hc : ∀ i, i < len → ∀ j, j < t.n → w.cell? (a.add (i * t.n + j)) = (cs i)[j]?) (hx : ∀ i, i < len → ∃ x, t.Rd w (cs i) x) : ∃ d, (rowTy t E).Rd w [.slice (some a) len cap] d := by
  have each : ∀ i, i < len → ∃ y : t.D × List Nat, t.rd w (cs i) y.1 y.2 := by
    intro i hi
    obtain ⟨x, fp, h⟩ := hx i hi
    exact ⟨(x, fp), h⟩
  by_cases h0 : len = 0
  · subst h0
    exact ⟨[], [], some a, cap, rfl, by simp, hm, .inl ⟨rfl, rfl, by simp⟩⟩
  · have hne : Nonempty (t.D × List Nat) := by
      obtain ⟨y, _⟩ := each 0 (by omega)
      exact ⟨y⟩
    have hch : ∃ f : Nat → t.D × List Nat, ∀ i, i < len → t.rd w (cs i) (f i).1 (f i).2 := by
      refine ⟨fun i => if h : i < len then Classical.choose (each i h) else Classical.choice hne, fun i hi => ?_⟩
      simp only [dif_pos hi]
      exact Classical.choose_spec (each i hi)
    obtain ⟨f, hf⟩ := hch
    obtain ⟨b, off, spot⟩ := a
    have hc0 := hc 0 (by omega) 0 hn
    have hsome : ∃ v0, (cs 0)[0]? = some v0 := ⟨(cs 0)[0]'(by rw [hcl 0 (by omega)]; exact hn), List.getElem?_eq_getElem _⟩
    obtain ⟨v0, hv0⟩ := hsome
    rw [hv0] at hc0
    have hspot : spot = none := by simpa [Addr.add] using World.cell?_spot hc0
    subst hspot
    have ea : ∀ k, (⟨b, off, none⟩ : Addr).add k = ⟨b, off + k, none⟩ := by
      intro k
      unfold Addr.add
      split <;> simp_all
    rw [ea] at hc0
    have hblt : b < w.heap.size := World.block_lt_of_cell? w _ hc0
    refine ⟨(List.range len).map fun i => (f i).1, b :: ((List.range len).map fun i => (f i).2).flatten, _, cap, by simp, by simpa using hl, hm, .inr ⟨b, off, (List.range len).map fun i => (f i).2, rfl, hblt, rfl, by simp, fun i x hxi => ?_⟩⟩
    have hi : i < len := by
      have := (List.getElem?_eq_some_iff.1 hxi).1
      simpa using this
    rw [List.getElem?_map, List.getElem?_range hi] at hxi
    simp at hxi
    subst hxi
    refine ⟨(f i).2, cs i, by rw [List.getElem?_map, List.getElem?_range hi]; rfl, hf i hi, fun j hj => ?_⟩
    rw [← ea]
    exact hc i hi j hj

theorem rdIntSS_of {t e q : TypeId} {fuel : Nat} {v : Value} {x : DataW H × List MemPlace} (ht : P.underlying t = some (.slice e)) (he : P.underlying e = some (.slice q)) (hq : P.underlying q = some (.int .i64)) (ce : P.cellsOf e = 1) (cq : P.cellsOf q = 1)
    (h : DataW.trod enc P w 0 (fun _ => true) held fuel t [v] = some x) : ∃ d, tIntSS.Rd w [v] d := by
  rcases open_slice1 ht ce h with ⟨hcs, _⟩ | ⟨a, len, cap, m, n, V, D, Pl, hcs, _, hl, hm, hmm, _, hx⟩
  · simp at hcs
    subst hcs
    exact ⟨[], [], none, 0, rfl, by simp, by simp, .inl ⟨rfl, rfl, fun _ => rfl⟩⟩
  · simp at hcs
    subst hcs
    simp only [if_true] at hmm
    refine rd_row hl (by unfold maxLen at hm; omega) (fun i => [V i]) (by decide) (fun _ _ => rfl) (fun i hi j hj => ?_) (fun i hi => rdInts_of he hq cq (hx i (by omega)).2)
    have hj0 : j = 0 := by have : j < 1 := hj; omega
    subst hj0
    have := (hx i (by omega)).1
    show w.cell? (a.add (i * 1 + 0)) = some (V i)
    rw [Nat.mul_one, Nat.add_zero]
    exact this

theorem rdWrS_of {t e q : TypeId} {f0 f1 : Field} {E : TypeId} {fuel : Nat} {v : Value} {x : DataW H × List MemPlace} (ht : P.underlying t = some (.slice e)) (he : P.underlying e = some (.struct #[f0, f1])) (ce : P.cellsOf e = 2) (o0 : f0.offset = 0) (o1 : f1.offset = 1) (c0 : P.cellsOf f0.type = 1) (c1 : P.cellsOf f1.type = 1)
    (hi0 : P.underlying f0.type = some (.int .i64)) (hi1 : P.underlying f1.type = some (.slice q)) (hq : P.underlying q = some (.int .i64)) (cq : P.cellsOf q = 1)
    (h : DataW.trod enc P w 0 (fun _ => true) held fuel t [v] = some x) : ∃ d, (tWrS E).Rd w [v] d := by
  rcases open_slice_pairs ht he ce o0 o1 c0 c1 h with ⟨hcs, _⟩ | ⟨a, len, cap, m, n, V0, V1, D0, D1, P0, P1, hcs, _, hl, hm, hmm, _, hx⟩
  · simp at hcs
    subst hcs
    exact ⟨[], [], none, 0, rfl, by simp, by simp, .inl ⟨rfl, rfl, fun _ => rfl⟩⟩
  · simp at hcs
    subst hcs
    simp only [if_true] at hmm
    refine rd_row hl (by unfold maxLen at hm; omega) (fun i => [V0 i, V1 i]) (by decide) (fun _ _ => rfl) (fun i hi j hj => ?_) (fun i hi => ?_)
    · have hj2 : j < 2 := hj
      obtain ⟨h0, h1, _⟩ := hx i (by omega)
      match j, hj2 with
      | 0, _ => exact h0
      | 1, _ => exact h1
    · obtain ⟨_, _, h2, h3⟩ := hx i (by omega)
      obtain ⟨y, hy, _, _⟩ := DataW.trod_int hi0 h2
      obtain ⟨zs, hzs⟩ := rdInts_of hi1 hq cq h3
      simp at hy
      exact ⟨(y, zs), by rw [hy]; exact pair_rd_of (t := intTy) (vs := [_]) ⟨[], rfl, rfl⟩ hzs⟩

end
end Go.Proofs.Ytfimpohbpccjaaa

/-
  What the row's reading says of an array that came in, in these texts' own words: its numbers and flags, and what its two slices read. No condition.
-/
namespace Go.Proofs.Ytfimpohbpccjaaa
open Go.RowKit Go.ChangeShapes Go.WideShapes Go.ChangeAt Go.Joins Go.Deep

section
variable {H : Type} {enc : TypeId × Value → H} {w : World} {held : Bool}

/-- A slice whose elements are read one by one. -/
theorem rdRow_of {P : Program} {t e E : TypeId} {u : Ty} {fuel : Nat} {v : Value} {x : DataW H × List MemPlace} (ht : P.underlying t = some (.slice e)) (ce : P.cellsOf e = u.n) (hn : 0 < u.n)
    (each : ∀ (n : Nat) (cs : List Value) (y : DataW H × List MemPlace), cs.length = u.n → DataW.trod enc P w 0 (fun _ => true) held n e cs = some y → ∃ d, u.Rd w cs d)
    (h : DataW.trod enc P w 0 (fun _ => true) held fuel t [v] = some x) : ∃ d, (rowTy u E).Rd w [v] d := by
  rcases open_slice ht h with ⟨hcs, _⟩ | ⟨a, len, cap, m, n, D, Pl, hcs, _, hl, hm, hmm, _, hx⟩
  · simp at hcs
    subst hcs
    exact ⟨[], [], none, 0, rfl, by simp, by simp, .inl ⟨rfl, rfl, fun _ => rfl⟩⟩
  · simp at hcs
    subst hcs
    simp only [if_true] at hmm
    have one : ∀ i, i < len → ∃ cs : List Value, cs.length = u.n ∧ (∀ j, j < u.n → w.cell? (a.add (i * u.n + j)) = cs[j]?) ∧ ∃ d, u.Rd w cs d := by
      intro i hi
      obtain ⟨cs', h1, h2⟩ := hx i (by omega)
      rw [ce] at h1
      obtain ⟨_, hlen, hcell⟩ := World.cells?_some h1
      refine ⟨cs', hlen, fun j hj => ?_, each n cs' _ hlen h2⟩
      have := hcell j hj
      rw [add_add] at this
      exact this
    obtain ⟨q, hq⟩ := choose_lt one
    exact rd_row hl (by unfold maxLen at hm; omega) q hn (fun i hi => (hq i hi).1) (fun i hi => (hq i hi).2.1) (fun i hi => (hq i hi).2.2)

theorem rdMemS_of {fuel : Nat} {v : Value} {x : DataW H × List MemPlace} (h : DataW.trod enc Try.prog w 0 (fun _ => true) held fuel 24 [v] = some x) : ∃ d, (tMemS 119 78).Rd w [v] d := by
  refine rdRow_of (e := 78) Try.underlying24 (by kernel_rfl) (by decide) (fun n cs y hl hy => ?_) h
  match cs, hl with
  | [v0, v1, v2, v3], _ =>
    obtain ⟨xs, k, _, _, _, hxl, hf⟩ := DataW.trod_struct Try.underlying78 hy
    have c1 : Try.prog.cellsOf 51 = 1 := by kernel_rfl
    have c2 : Try.prog.cellsOf 76 = 1 := by kernel_rfl
    have c3 : Try.prog.cellsOf 4 = 1 := by kernel_rfl
    have c4 : Try.prog.cellsOf 38 = 1 := by kernel_rfl
    match xs, hxl with
    | [y0, y1, y2, y3], _ =>
      have g0 := hf 0 _ rfl
      have g1 := hf 1 _ rfl
      have g2 := hf 2 _ rfl
      have g3 := hf 3 _ rfl
      simp [c1] at g0
      simp [c2] at g1
      simp [c3] at g2
      simp [c4] at g3
      obtain ⟨ss, r0⟩ := rdIntSS_of Try.underlying51 Try.underlying38 Try.underlying3 (by kernel_rfl) (by kernel_rfl) g0
      obtain ⟨ws, r1⟩ := rdWrS_of (E := 119) Try.underlying76 Try.underlying119 (by kernel_rfl) rfl rfl (by kernel_rfl) (by kernel_rfl) Try.underlying3 Try.underlying38 Try.underlying3 (by kernel_rfl) g1
      obtain ⟨f, hfb, _⟩ := DataW.trod_bool Try.underlying4 g2
      obtain ⟨bs, r3⟩ := rdInts_of Try.underlying38 Try.underlying3 (by kernel_rfl) g3
      simp at hfb
      subst hfb
      exact ⟨(ss, ws, f, bs), pair_rd_of (vs := [v0]) r0 (pair_rd_of (vs := [v1]) r1 (pair_rd_of (t := boolTy) (vs := [.bool f]) ⟨[], rfl, rfl⟩ r3))⟩

set_option maxRecDepth 20000 in
theorem array13 {cs : Array Value} (h : cs.size = 13) : ∃ c0 c1 c2 c3 c4 c5 c6 c7 c8 c9 c10 c11 c12, cs = #[c0, c1, c2, c3, c4, c5, c6, c7, c8, c9, c10, c11, c12] := by
  obtain ⟨l⟩ := cs
  match l, h with
  | [c0, c1, c2, c3, c4, c5, c6, c7, c8, c9, c10, c11, c12], _ => exact ⟨c0, c1, c2, c3, c4, c5, c6, c7, c8, c9, c10, c11, c12, rfl⟩

set_option maxRecDepth 20000 in
set_option maxHeartbeats 1600000 in
theorem open_arr {r : Reach} {b0 : Nat} {v : Value} {d : DataW H} {p : List MemPlace} (hv : Value.okWide Try.prog w r b0 27 v) (h : DataW.Trod enc Try.prog w 0 (fun _ => true) held 27 v d p) :
    ∃ (x : ArrN) (am ad : Option Addr) (cm cd : Nat) (ms : List MemD) (ds : List (Int × List Int)), v = .agg #[.int .i64 x.id, .int .i64 x.n, .int .i64 x.s, .slice am ms.length cm, .int .i64 x.lost, .int .i64 x.built, .int .i64 x.seq, .int .i64 x.tail, .int .i64 x.gen, .slice ad ds.length cd, .int .i64 x.fuse, .bool x.down, .bool x.broken] ∧ (tMemS 119 78).Rd w [.slice am ms.length cm] ms ∧ (tWrS 81).Rd w [.slice ad ds.length cd] ds := by
  obtain ⟨cs, rfl, hsz⟩ := okWide_struct Try.underlying27 hv
  obtain ⟨c0, c1, c2, c3, c4, c5, c6, c7, c8, c9, c10, c11, c12, rfl⟩ := array13 (hsz.trans (by kernel_rfl))
  obtain ⟨fuel, hf⟩ := h
  obtain ⟨xs, n, _, _, _, hxl, hx⟩ := DataW.trod_struct Try.underlying27 hf
  have k3 : Try.prog.cellsOf 3 = 1 := by kernel_rfl
  have k4 : Try.prog.cellsOf 4 = 1 := by kernel_rfl
  have kG : Try.prog.cellsOf 23 = 2 := by kernel_rfl
  have kM : Try.prog.cellsOf 24 = 1 := by kernel_rfl
  have kE : Try.prog.cellsOf 25 = 1 := by kernel_rfl
  match xs, hxl with
  | [y0, y1, y2, y3, y4, y5, y6, y7, y8, y9, y10, y11], _ =>
    have g0 := hx 0 _ rfl
    have g1 := hx 1 _ rfl
    have g2 := hx 2 _ rfl
    have g3 := hx 3 _ rfl
    have g4 := hx 4 _ rfl
    have g5 := hx 5 _ rfl
    have g6 := hx 6 _ rfl
    have g7 := hx 7 _ rfl
    have g8 := hx 8 _ rfl
    have g9 := hx 9 _ rfl
    have g10 := hx 10 _ rfl
    have g11 := hx 11 _ rfl
    simp [Value.cells, k3] at g0
    simp [Value.cells, kG] at g1
    simp [Value.cells, kM] at g2
    simp [Value.cells, k3] at g3
    simp [Value.cells, k3] at g4
    simp [Value.cells, k3] at g5
    simp [Value.cells, k3] at g6
    simp [Value.cells, k3] at g7
    simp [Value.cells, kE] at g8
    simp [Value.cells, k3] at g9
    simp [Value.cells, k4] at g10
    simp [Value.cells, k4] at g11
    obtain ⟨n0, e0, _, _⟩ := DataW.trod_int Try.underlying3 g0
    simp at e0
    subst e0
    obtain ⟨zs, m, _, _, _, hzl, hz⟩ := DataW.trod_struct Try.underlying23 g1
    match zs, hzl with
    | [z0, z1], _ =>
    have q0 := hz 0 _ rfl
    have q1 := hz 1 _ rfl
    simp [k3] at q0 q1
    obtain ⟨nn, en, _, _⟩ := DataW.trod_int Try.underlying3 q0
    obtain ⟨ns, es, _, _⟩ := DataW.trod_int Try.underlying3 q1
    simp at en es
    subst en es
    obtain ⟨ms, r2⟩ := rdMemS_of g2
    obtain ⟨am, cm, rfl⟩ := row_shape r2
    obtain ⟨n3, e3, _, _⟩ := DataW.trod_int Try.underlying3 g3
    simp at e3
    subst e3
    obtain ⟨n4, e4, _, _⟩ := DataW.trod_int Try.underlying3 g4
    simp at e4
    subst e4
    obtain ⟨n5, e5, _, _⟩ := DataW.trod_int Try.underlying3 g5
    simp at e5
    subst e5
    obtain ⟨n6, e6, _, _⟩ := DataW.trod_int Try.underlying3 g6
    simp at e6
    subst e6
    obtain ⟨n7, e7, _, _⟩ := DataW.trod_int Try.underlying3 g7
    simp at e7
    subst e7
    obtain ⟨ds, r8⟩ := rdWrS_of (E := 81) Try.underlying25 Try.underlying81 (by kernel_rfl) rfl rfl (by kernel_rfl) (by kernel_rfl) Try.underlying3 Try.underlying38 Try.underlying3 (by kernel_rfl) g8
    obtain ⟨ad, cd, rfl⟩ := row_shape r8
    obtain ⟨n9, e9, _, _⟩ := DataW.trod_int Try.underlying3 g9
    simp at e9
    subst e9
    obtain ⟨n10, e10, _⟩ := DataW.trod_bool Try.underlying4 g10
    simp at e10
    subst e10
    obtain ⟨n11, e11, _⟩ := DataW.trod_bool Try.underlying4 g11
    simp at e11
    subst e11
    exact ⟨⟨n0, nn, ns, n3, n4, n5, n6, n7, n9, n10, n11⟩, am, ad, cm, cd, ms, ds, rfl, r2, r8⟩

end
end Go.Proofs.Ytfimpohbpccjaaa

namespace Go.Proofs.Ytfimpohbpccjaaa.fnExactDurable
open Go.ChangeShapes Go.WideShapes Go.ChangeAt Go.RowKit Go.Joins
open Go.ChangeMaps (open_string shut_string)
set_option linter.unusedVariables false

theorem own : ownKnob Try.prog.godebug = none := by kernel_rfl
theorem laidOut : laidOutB Try.prog = true := by kernel_rfl

set_option maxRecDepth 100000 in
theorem lifted (os : Os) (started : os.Started) (H : Type) (enc : TypeId × Value → H) :
    ReturnsInHanded {} Try.checked os 7 .any (Rows.fnExactDurableSpec.pre6 enc Try.prog Try.f7 Rows.fnExactDurableRow.domain false) (Rows.fnExactDurableSpec.post enc Try.prog Try.f7 false true false false) := by
  refine returnsInHanded_of_change (C := Try.checked) own started (by kernel_rfl) Try.func7
    (ChangeSpec.witness6 (enc := enc) (C := Try.checked) false ⟨#[], #[.agg #[.int .i64 0, .int .i64 0, .int .i64 0, .slice none 0 0, .int .i64 0, .int .i64 0, .int .i64 0, .int .i64 0, .int .i64 0, .slice none 0 0, .int .i64 0, .bool false, .bool false]], []⟩ 8 (by kernel_rfl) (by kernel_rfl) (by kernel_rfl) (by kernel_rfl)) ?_
  intro W base args ds gs before hval0 hW hcnd _
  have hval : ∀ (j : Nat) t v, Try.f7.params[j]? = some t → args[j]? = some v → Value.okWide Try.prog W .any base t v := hval0
  have hW' := hW
  obtain ⟨p, q, hA0, hV, rfl, hfz, hnd⟩ := hW
  have hA : DataW.TrodAll enc Try.prog W 0 (fun _ => true) true Try.f7.params.toList args.toList ds p := hA0
  rw [Try.params7] at hA hval
  obtain ⟨v0, vs0, d0, ds0, p0, q0, hargs0, rfl, rfl, h0, r0⟩ := trodAll_cons hA
  obtain ⟨rfl, rfl, rfl⟩ := trodAll_nil r0
  obtain rfl : args = #[v0] := by cases args; simp_all
  obtain ⟨rfl, rfl⟩ := trodVars_none hV
  have k0 := h0
  have lt0 : ∀ x ∈ p0, x.block < W.heap.size := by obtain ⟨m, hm⟩ := k0; exact DataW.trod_lt m _ _ _ hm
  obtain ⟨x0, am0, ad0, cm0, cd0, ms0, ds0, rfl, g0m, g0d⟩ := open_arr (hval 0 27 v0 rfl rfl) h0
  clear hA0 hval0
  refine (fnExactDurable_walk x0 am0 ad0 ms0.length cm0 ds0.length cd0 ms0 ds0 W g0m g0d).mono fun e W' ⟨he, bel⟩ => ?_
  subst he
  exact ⟨_, rfl, _, _, _, [], _, [], hW', trodAll_mk1 (shut_bool Try.underlying4 _), (trodAll_cons_mk (Below.trod laidOut (by kernel_rfl) (of_decide_eq_true (by kernel_rfl)) k0 bel lt0) trodAll_mk0), rfl, bel.frame _, fun h => by cases h⟩

theorem over : Rows.fnExactDurableRow.holds Try.pinned (OpenSpec.ofChange Rows.fnExactDurableSpec) :=
  OpenClaim.holds_of_wide 7 Try.f7 rfl rfl rfl rfl rfl rfl rfl ⟨rfl, rfl, rfl, rfl, rfl⟩ rfl rfl rfl rfl rfl (by kernel_rfl) Try.func7 (by kernel_rfl)
    (of_decide_eq_true (by kernel_rfl)) (by unfold Func.isWrapper; first | (rw [if_pos (by decide +kernel)]; kernel_rfl) | (rw [if_neg (by decide +kernel)]; exact ⟨rfl, rfl⟩))
    (fun os started H enc _ => lifted os started H enc)
end Go.Proofs.Ytfimpohbpccjaaa.fnExactDurable

namespace Go.Proofs.Ytfimpohbpccjaaa
/-- The given statement. -/
theorem fnExactDurable_holds : Rows.FnExactDurableSaid := fnExactDurable.over
#print axioms fnExactDurable_holds
end Go.Proofs.Ytfimpohbpccjaaa

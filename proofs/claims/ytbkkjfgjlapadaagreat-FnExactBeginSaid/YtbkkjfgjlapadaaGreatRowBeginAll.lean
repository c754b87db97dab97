/-
  What the row's reading says of an engine that came in, in these texts' own words. No condition.
-/
import Derived.Test.YtbkkjfgjlapadaaGreatRowBeginAll3
import Derived.Test.YtbkkjfgjlapadaaGreatWalkGeo
import Derived.Test.YtbkkjfgjlapadaaGreatWalkCmd
import Derived.Test.YtbkkjfgjlapadaaGreatRowBeginAll2
import Derived.Test.YtbkkjfgjlapadaaGreatHeld
import Derived.Test.YtbkkjfgjlapadaaGreatHeldLoad15
import Derived.Test.YtbkkjfgjlapadaaGreatSl15
import Derived.Test.YtbkkjfgjlapadaaGreatCmdS14
import Derived.Test.YtbkkjfgjlapadaaGreatWalkMems
import Derived.Test.YtbkkjfgjlapadaaGreatWalkArr
import Derived.Test.YtbkkjfgjlapadaaGreatEng15
import Derived.Test.YtbkkjfgjlapadaaGreatWalkSz
import Derived.ProofKit
import Derived.OpenShut
import Derived.Lib.SmallJoins
import Derived.Deep.Slices
import Derived.Deep.SlicePairs
import Derived.Test.YtbkkjfgjlapadaaGreatRows14

/-
  A row of one's own without one element, in a block that is new; 'append' of another slice's elements. No condition; nothing of the program is named here.
-/
namespace Go.Proofs.YtbkkjfgjlapadaaGreat
open Go.RowKit

theorem row_erase {t : Ty} {E : TypeId} {w w' : World} {g n cap k g2 cap2 : Nat} {d : List t.D} {x : t.D} {fp : List Nat} {cur : Array Value} (hM : (rowTy t E).Mine w [.slice (some ⟨g, 0, none⟩) n cap] d fp) (hx : d[k]? = some x)
    (hsz : w.heap.size ≤ w'.heap.size) (hoth : ∀ b ∈ fp, b ≠ g → w'.heap[b]? = w.heap[b]?) (hg2 : g2 ∉ fp) (hc : w.heap[g]? = some (.cells cur E (0, 0)))
    (hrow : w'.ownsRow 0 E t.n (.slice (some ⟨g2, 0, none⟩) (n - 1) cap2) (n - 1) (cur.toList.take (k * t.n) ++ (cur.toList.drop ((k + 1) * t.n)).take ((n - (k + 1)) * t.n))) :
    ∃ cs f fr, t.Mine w' cs x f ∧ (∀ q, q < t.n → w.cell? ⟨g, k * t.n + q, none⟩ = cs[q]?) ∧ (rowTy t E).Mine w' [.slice (some ⟨g2, 0, none⟩) (n - 1) cap2] (d.eraseIdx k) fr ∧ (∀ b ∈ f, b ∈ fp ∧ b ∉ fr) ∧ ∀ b ∈ fr, b ∈ fp ∨ b = g2 := by
  obtain ⟨h, hn⟩ := hM
  rcases h with ⟨h1, _⟩ | ⟨b, cap', cur0, fps, h1, h2, h3, h4, h5, h6, h7, h8⟩
  · simp at h1
  · simp only [List.cons.injEq, Value.slice.injEq, Option.some.injEq, Addr.mk.injEq, and_true] at h1
    obtain ⟨rfl, rfl, rfl⟩ := h1
    rw [hc] at h4
    simp only [Option.some.injEq, Obj.cells.injEq, and_true] at h4
    subst h4
    have h4 := hc
    obtain ⟨f, hf, ho⟩ := h8 k x hx
    obtain ⟨e1, e2⟩ := erase_flat hf
    have hk : k < d.length := (List.getElem?_eq_some_iff.1 hx).1
    have hkf : k < fps.length := by rw [h7]; exact hk
    rw [h6, List.nodup_cons, e1] at hn
    obtain ⟨hg, hnf⟩ := hn
    obtain ⟨cur', c1, hn2, hm2, c2, c3⟩ : ∃ cur', w'.heap[g2]? = some (.cells cur' E (0, 0)) ∧ d.length - 1 ≤ cap2 ∧ cap2 ≤ 9223372036854775807 ∧ cur'.size = cap2 * t.n ∧ ∀ m, m < (d.length - 1) * t.n → cur'.toList[m]? = if m < k * t.n then cur.toList[m]? else cur.toList[m + t.n]? := by
      rcases hrow.2 with ⟨h0, _⟩ | ⟨g3, cap3, cur3, r1, r2, r3, r4, r5, r6, r7⟩
      · cases h0
      · simp only [Value.slice.injEq, Option.some.injEq, Addr.mk.injEq, and_true, true_and] at r1
        obtain ⟨rfl, rfl⟩ := r1
        unfold maxLen at r5
        refine ⟨cur3, r3, r4, r5, r6, fun m hm => ?_⟩
        have e := congrArg (fun l => l[m]?) r7
        simp only [List.getElem?_take] at e
        rw [if_pos hm] at e
        rw [e]
        have l0 : cur.toList.length = cap * t.n := by rw [Array.length_toList]; exact h5
        have l1 : (k + 1) * t.n ≤ d.length * t.n := Nat.mul_le_mul_right _ hk
        have l2 : d.length * t.n ≤ cap * t.n := Nat.mul_le_mul_right _ h2
        have l3 : (d.length - 1) * t.n + t.n = d.length * t.n := by rw [← Nat.succ_mul]; congr 1; omega
        have l4 : (d.length - (k + 1)) * t.n = d.length * t.n - (k + 1) * t.n := Nat.sub_mul _ _ _
        have l5 : (k + 1) * t.n = k * t.n + t.n := Nat.succ_mul _ _
        have la : (cur.toList.take (k * t.n)).length = k * t.n := by rw [List.length_take, l0]; omega
        by_cases hmk : m < k * t.n
        · rw [if_pos hmk, List.getElem?_append_left (by omega), List.getElem?_take, if_pos hmk]
        · rw [if_neg hmk, List.getElem?_append_right (by omega), la, List.getElem?_take, if_pos (by omega), List.getElem?_drop, show (k + 1) * t.n + (m - k * t.n) = m + t.n by omega]
    have hfp : ∀ b ∈ f, b ∈ fp ∧ b ≠ g := fun b hb => by
      have hm : b ∈ (fps.take k).flatten ++ (f ++ (fps.drop (k + 1)).flatten) := List.mem_append_right _ (List.mem_append_left _ hb)
      exact ⟨by rw [h6, e1]; exact List.mem_cons_of_mem _ hm, fun e => hg (e ▸ hm)⟩
    have hin : ∀ i f', fps[i]? = some f' → ∀ b ∈ f', b ∈ fp ∧ b ≠ g := fun i f' hf' b hb => by
      have hm : b ∈ fps.flatten := List.mem_flatten.2 ⟨f', List.mem_of_getElem? hf', hb⟩
      exact ⟨by rw [h6]; exact List.mem_cons_of_mem _ hm, fun e => hg (by rw [← e1]; exact e ▸ hm)⟩
    rw [List.nodup_append, List.nodup_append] at hnf
    obtain ⟨n1, ⟨n2, n3, n4⟩, n5⟩ := hnf
    have hsub : ∀ b ∈ (fps.eraseIdx k).flatten, b ∈ (fps.take k).flatten ++ (f ++ (fps.drop (k + 1)).flatten) := fun b hb => by
      rw [e2] at hb
      rcases List.mem_append.1 hb with hb | hb
      · exact List.mem_append_left _ hb
      · exact List.mem_append_right _ (List.mem_append_right _ hb)
    have hle : (d.length - 1 + 1) * t.n = d.length * t.n := by rw [show d.length - 1 + 1 = d.length by omega]
    refine ⟨(cur.toList.drop (k * t.n)).take t.n, f, g2 :: (fps.eraseIdx k).flatten, ⟨t.owKept ho (fun b hb => hoth b (hfp b hb).1 (hfp b hb).2) hsz, n2⟩, fun q hq => ?_, ⟨.inr ⟨g2, cap2, cur', fps.eraseIdx k, by rw [List.length_eraseIdx_of_lt hk], by rw [List.length_eraseIdx_of_lt hk]; omega, hm2, c1, c2, rfl, by rw [List.length_eraseIdx_of_lt hk, List.length_eraseIdx_of_lt hkf, h7], fun i y hy => ?_⟩, ?_⟩, fun b hb => ⟨(hfp b hb).1, ?_⟩, fun b hb => ?_⟩
    · rw [cell_of_row w g _ cur E (0, 0) h4, List.getElem?_take, if_pos hq, List.getElem?_drop]
      simp
    · have hil : i < d.length - 1 := by
        have := (List.getElem?_eq_some_iff.1 hy).1
        rwa [List.length_eraseIdx_of_lt hk] at this
      have hil2 : (i + 1) * t.n ≤ (d.length - 1) * t.n := Nat.mul_le_mul_right _ hil
      rw [Nat.add_mul] at hil2
      rw [List.getElem?_eraseIdx] at hy ⊢
      by_cases hik : i < k
      · have hik2 : (i + 1) * t.n ≤ k * t.n := Nat.mul_le_mul_right _ hik
        rw [Nat.add_mul] at hik2
        rw [if_pos hik] at hy ⊢
        obtain ⟨f', hf', ho2⟩ := h8 i y hy
        have hp : (cur'.toList.drop (i * t.n)).take t.n = (cur.toList.drop (i * t.n)).take t.n := by
          apply List.ext_getElem?
          intro q
          rw [List.getElem?_take, List.getElem?_take]
          by_cases hq : q < t.n
          · rw [if_pos hq, if_pos hq, List.getElem?_drop, List.getElem?_drop, c3 _ (by omega), if_pos (by omega)]
          · rw [if_neg hq, if_neg hq]
        rw [hp]
        exact ⟨f', hf', t.owKept ho2 (fun b hb => hoth b (hin i f' hf' b hb).1 (hin i f' hf' b hb).2) hsz⟩
      · have hik2 : k * t.n ≤ i * t.n := Nat.mul_le_mul_right _ (by omega)
        rw [if_neg hik] at hy ⊢
        obtain ⟨f', hf', ho2⟩ := h8 (i + 1) y hy
        have hp : (cur'.toList.drop (i * t.n)).take t.n = (cur.toList.drop ((i + 1) * t.n)).take t.n := by
          apply List.ext_getElem?
          intro q
          rw [List.getElem?_take, List.getElem?_take]
          by_cases hq : q < t.n
          · rw [if_pos hq, if_pos hq, List.getElem?_drop, List.getElem?_drop, c3 _ (by omega), if_neg (by omega), show (i + 1) * t.n + q = i * t.n + q + t.n by rw [Nat.add_mul]; omega]
          · rw [if_neg hq, if_neg hq]
        rw [hp]
        exact ⟨f', hf', t.owKept ho2 (fun b hb => hoth b (hin (i + 1) f' hf' b hb).1 (hin (i + 1) f' hf' b hb).2) hsz⟩
    · rw [List.nodup_cons]
      refine ⟨fun hb => hg2 (by rw [h6, e1]; exact List.mem_cons_of_mem _ (hsub g2 hb)), ?_⟩
      rw [e2, List.nodup_append]
      exact ⟨n1, n3, fun a ha b hb => n5 a ha b (List.mem_append_right _ hb)⟩
    · intro hb'
      rcases List.mem_cons.1 hb' with e | hb'
      · exact hg2 (e ▸ (hfp b hb).1)
      · rw [e2] at hb'
        rcases List.mem_append.1 hb' with hb' | hb'
        · exact n5 b hb' b (List.mem_append_left _ hb) rfl
        · exact n4 b hb b hb' rfl
    · rcases List.mem_cons.1 hb with e | hb
      · exact .inr e
      · exact .inl (by rw [h6, e1]; exact List.mem_cons_of_mem _ (hsub b hb))

/-- 'append' of the elements of another slice to a row of the call's own, at a step of a region that draws its order. -/
theorem step_rows {P : Program} {w : World} {ops : Array Oper} {o : Oper} {a : Act} {K : Act → World → Prop} {Q : Exit → Act → World → Prop} {G : Prop} (size : Nat) (hgd : o.guard = none) (s x : Operand) (T : TypeId)
    (ho : o.op = .call { callee := .builtin .append, args := #[s, x], argTypes := #[T, T] })
    (E : TypeId) (i : TypeInfo) (z : Value) (bytes : Nat) (ht : P.underlying T = some (.slice E)) (hi : P.info? E = some i) (hz : i.zero = some z)
    (hsize : i.size = size) (hby : i.bytes = bytes) (hzs : z.cells.size = size) (hsz : 0 < size)
    (g c0 n : Nat) (xs : List Value) (hs : a.eval s = .slice (some ⟨g, 0, none⟩) n c0) (hown : w.ownsRow 0 E size (.slice (some ⟨g, 0, none⟩) n c0) n xs)
    (ad : Addr) (m c : Nat) (vs : List Value) (hx : a.eval x = .slice (some ad) m c) (hl : vs.length = m * size) (hr : ∀ j u, vs[j]? = some u → w.cell? (ad.add j) = some u) (h1 : ∀ u ∈ vs, u.oneCell' = true)
    (h63 : n + m ≤ maxLen) (hbytes : (n + m) * bytes ≤ 140737488355328)
    (h : ∀ g' cap w', w'.ownsRow 0 E size (.slice (some ⟨g', 0, none⟩) (n + m) cap) (n + m) (xs ++ vs) → (g' = g ∨ g' = w.heap.size) → Turned [g] w w' → K (a.put o.dst (.slice (some ⟨g', 0, none⟩) (n + m) cap)) w') :
    if Region.wanted o (yielded ops a.tmps) = true then Oper.wp P o a w K Q else G := by
  have hw : Region.wanted o (yielded ops a.tmps) = true := by simp [Region.wanted, hgd]
  rw [if_pos hw]
  obtain ⟨v', w', hrun, k1, k2, _, k4⟩ := run_append_own_at (P := P) w 0 T o.type E i z size bytes ht hi hz hsize hby hzs hsz _ n xs hown ad m c vs hl hr h1 h63 hbytes (Nat.zero_le _)
  unfold Oper.wp
  simp [execOp, ho, resolve, invoke, builtin, hs, hx, hrun, Result.andThen]
  have hT : Turned [g] w w' := ⟨k2.os, k2.tape, k2.output, k2.size, fun k hk hf => k2.block k hk (by simp [Value.ownBlock]; exact fun e => hf (by simp [e]))⟩
  rcases k1.2 with ⟨h0, _⟩ | ⟨g3, cap3, cur3, r1, _⟩
  · rw [h0] at k4
    simp [Value.ownBlock] at k4
  · subst r1
    refine h g3 cap3 w' k1 ?_ hT
    simpa [Value.ownBlock] using k4

end Go.Proofs.YtbkkjfgjlapadaaGreat

/-
  The walks of the specification's Blocks, ParityOf, DiskOf, StripeOf, IndexOf and BlockAt. No condition.
-/
namespace Go.Proofs.YtbkkjfgjlapadaaGreat
open Go.RowKit

theorem sStripe_of {n s t : Int} : stripeB n s t = true ↔ geoB n s = true ∧ 0 ≤ t ∧ t ≤ s - 1 := by unfold stripeB; rw [Bool.and_eq_true, inB_iff]

set_option maxHeartbeats 800000 in
theorem specBlocks_any (w : World) (n s : Int) : Calls Tryz.prog 147 #[.agg #[.int .i64 n, .int .i64 s]] w fun e w' => e = .returned (.int .i64 (blocksN n s)) ∧ Below w.heap.size w w' := by
  have hA := new_below w (.cells #[.int .i64 n, .int .i64 s] 25)
  have X := Gbox.new w 25 n s
  obtain ⟨k0, k1⟩ := X.cells
  have zA := X.lt
  go_enter Tryz.func147, Tryz.ntmps147
  go_wp2_with fail
  refine (specGeoOk_any _ _ _).mono ?_
  rintro e w1 ⟨rfl, b1⟩
  have X1 := X.below b1 zA
  obtain ⟨p0, p1⟩ := X1.cells
  have B1 := Below.andThen hA b1
  clear k0 k1 X b1 hA zA
  by_cases hg : geoB n s = true
  · obtain ⟨h1, h2, h3, h4⟩ := geoB_iff.1 hg
    have hm := geoB_blocks hg
    have HB := hidden (blocksN_of hg)
    have gw : IntKind.i64.wrap (s * (n - 1)) = s * (n - 1) := IntWalk.i64_in _ (by omega)
    go_wp2
    go_ret
    exact ⟨ret_int HB.out.symm, B1⟩
  · have hg : geoB n s = false := by simpa using hg
    go_wp2
    go_ret
    exact ⟨ret_int (blocksN_not hg).symm, B1⟩

set_option maxHeartbeats 800000 in
theorem l3Stripe_any (w : World) (n s t : Int) : Calls Tryz.prog 337 #[.agg #[.int .i64 n, .int .i64 s], .int .i64 t] w fun e w' => e = .returned (.bool (stripeB n s t)) ∧ Below w.heap.size w w' := by
  have hA := new_below w (.cells #[.int .i64 n, .int .i64 s] 25)
  have X := Gbox.new w 25 n s
  obtain ⟨k0, k1⟩ := X.cells
  have zA := X.lt
  go_enter Tryz.func337, Tryz.ntmps337
  go_wp2_with fail
  refine (specGeoOk_any _ _ _).mono ?_
  rintro e w1 ⟨rfl, b1⟩
  have X1 := X.below b1 zA
  obtain ⟨p0, p1⟩ := X1.cells
  have B1 := Below.andThen hA b1
  clear k0 k1 X b1 hA zA
  by_cases hg : geoB n s = true
  · obtain ⟨h1, h2, h3, h4⟩ := geoB_iff.1 hg
    go_wp2_with fail
    refine (l1In_any _ _ _ _).mono ?_
    rintro e w2 ⟨rfl, rfl⟩
    go_wp2
    go_ret
    exact ⟨ret_bool (by unfold stripeB; rw [hg]; rfl), B1⟩
  · have hg : geoB n s = false := by simpa using hg
    go_wp2
    go_ret
    exact ⟨ret_bool (by unfold stripeB; rw [hg]; rfl), B1⟩

set_option maxHeartbeats 800000 in
theorem specParityOf_any (w : World) (n s t : Int) : Calls Tryz.prog 338 #[.agg #[.int .i64 n, .int .i64 s], .int .i64 t] w fun e w' => e = .returned (.int .i64 (parN n s t)) ∧ Below w.heap.size w w' := by
  have hA := new_below w (.cells #[.int .i64 n, .int .i64 s] 25)
  have X := Gbox.new w 25 n s
  obtain ⟨k0, k1⟩ := X.cells
  have zA := X.lt
  go_enter Tryz.func338, Tryz.ntmps338
  go_wp2_with fail
  refine (l3Stripe_any _ _ _ _).mono ?_
  rintro e w1 ⟨rfl, b1⟩
  have X1 := X.below b1 zA
  obtain ⟨p0, p1⟩ := X1.cells
  have B1 := Below.andThen hA b1
  clear k0 k1 X b1 hA zA
  by_cases hg : stripeB n s t = true
  · obtain ⟨hg1, h1, h2⟩ := sStripe_of.1 hg
    obtain ⟨g1, g2, g3, g4⟩ := geoB_iff.1 hg1
    have hm1 : 0 ≤ t % n := Int.emod_nonneg _ (by omega)
    have hm2 : t % n < n := Int.emod_lt_of_pos _ (by omega)
    have HB : Hid (parN n s t = n - 1 - t % n) := by unfold Hid parN; rw [if_pos hg]
    go_wp2_with fail
    go_quiet (fail)
    go_wp2
    go_ret
    exact ⟨ret_int (by rw [HB.out]), Below.andSame B1 ((Same.refl _).drewN _)⟩
  · have hg' : stripeB n s t = false := by simpa using hg
    go_wp2
    go_ret
    exact ⟨ret_int (by unfold parN; rw [if_neg hg]), B1⟩

set_option maxHeartbeats 1600000 in
theorem specDiskOf_any (w : World) (n s t i : Int) : Calls Tryz.prog 319 #[.agg #[.int .i64 n, .int .i64 s], .int .i64 t, .int .i64 i] w fun e w' => e = .returned (.int .i64 (diskN n s t i)) ∧ Below w.heap.size w w' := by
  have hA := new_below w (.cells #[.int .i64 n, .int .i64 s] 25)
  have X := Gbox.new w 25 n s
  obtain ⟨k0, k1⟩ := X.cells
  have zA := X.lt
  go_enter Tryz.func319, Tryz.ntmps319
  go_wp2_with fail
  refine (l3Stripe_any _ _ _ _).mono ?_
  rintro e w1 ⟨rfl, b1⟩
  have X1 := X.below b1 zA
  have B1 := Below.andThen hA b1
  clear k0 k1 X b1 hA zA
  obtain ⟨k0, k1⟩ := X1.cells
  by_cases hs : stripeB n s t = true
  · obtain ⟨hg, h1, h2⟩ := sStripe_of.1 hs
    obtain ⟨g1, g2, g3, g4⟩ := geoB_iff.1 hg
    go_wp2_with fail
    refine (l1In_any _ _ _ _).mono ?_
    rintro e w2 ⟨rfl, rfl⟩
    by_cases hi : inB i 0 (n - 2) = true
    · obtain ⟨h3, h4⟩ := inB_iff.1 hi
      have hm1 : 0 ≤ t % n := Int.emod_nonneg _ (by omega)
      have hm2 : t % n < n := Int.emod_lt_of_pos _ (by omega)
      have HP : parN n s t = n - 1 - t % n := by unfold parN; rw [if_pos hs]
      have HPar : ∀ W : World, Calls Tryz.prog 338 #[.agg #[.int .i64 n, .int .i64 s], .int .i64 t] W fun e w' => e = .returned (.int .i64 (n - 1 - t % n)) ∧ Below W.heap.size W w' := by
        intro W
        rw [← HP]
        exact specParityOf_any _ _ _ _
      have HD : Hid (diskN n s t i = (n - 1 - t % n + 1 + i) % n) := by unfold Hid diskN spotB; rw [hs, hi]; rfl
      clear HP
      generalize t % n = r at hm1 hm2 HPar HD
      have e1 : ¬ n = 0 := by omega
      have e2 : (n - 1 - r + 1 + i).tmod n = (n - 1 - r + 1 + i) % n := Int.tmod_eq_emod_of_nonneg (by omega)
      have e3 : IntKind.i64.wrap (n - 1 - r + 1) = n - 1 - r + 1 := IntWalk.i64_in _ (by omega)
      have e4 : IntKind.i64.wrap (n - 1 - r + 1 + i) = n - 1 - r + 1 + i := IntWalk.i64_in _ (by omega)
      go_wp2_with fail
      go_region_held3 (fun w' => w'.cell? ⟨w.heap.size, 0, none⟩ = some (.int .i64 n) ∧ w'.cell? ⟨w.heap.size, 1, none⟩ = some (.int .i64 s))
        (first | (exact X2.cells) | (exact X1.cells) | go_keep)
        (first
          | (go_at_call 338; refine (HPar _).mono ?_; rintro e w2 ⟨rfl, b2⟩; have B2 := Below.andThen B1.drew b2; have X2 := X1.drew.below b2 X1.lt))
      go_wp2
      go_ret
      exact ⟨ret_int HD.out.symm, B2⟩
    · have hi' : inB i 0 (n - 2) = false := by simpa using hi
      go_wp2
      go_ret
      exact ⟨ret_int (by unfold diskN spotB; rw [hs, hi']; rfl), B1⟩
  · have hs' : stripeB n s t = false := by simpa using hs
    go_wp2
    go_ret
    exact ⟨ret_int (by unfold diskN spotB; rw [hs']; rfl), B1⟩


theorem blockB_geo' {n s b : Int} (h : blockB n s b = true) : geoB n s = true ∧ 0 ≤ b ∧ b < blocksN n s := by
  unfold blockB at h
  rw [inB_iff] at h
  by_cases hg : geoB n s = true
  · exact ⟨hg, by omega, by omega⟩
  · rw [blocksN_not (by simpa using hg)] at h
    omega

set_option maxHeartbeats 1600000 in
theorem specStripeOf_any (w : World) (n s b : Int) : Calls Tryz.prog 218 #[.agg #[.int .i64 n, .int .i64 s], .int .i64 b] w fun e w' => e = .returned (.int .i64 (stripeN n s b)) ∧ Below w.heap.size w w' := by
  have hA := new_below w (.cells #[.int .i64 n, .int .i64 s] 25)
  have X := Gbox.new w 25 n s
  obtain ⟨k0, k1⟩ := X.cells
  have zA := X.lt
  have hr := blocksN_range n s
  have HR : Hid (inB b 0 (blocksN n s - 1) = blockB n s b) := rfl
  go_enter Tryz.func218, Tryz.ntmps218
  go_wp2_with fail
  refine (specBlocks_any _ _ _).mono ?_
  rintro e w1 ⟨rfl, b1⟩
  have X1 := X.below b1 zA
  have B1 := Below.andThen hA b1
  clear k0 k1 X b1 hA zA
  obtain ⟨k0, k1⟩ := X1.cells
  go_wp2_with fail
  refine (l1In_any _ _ _ _).mono ?_
  rintro e w2 ⟨rfl, rfl⟩
  rw [HR.out]
  by_cases hb : blockB n s b = true
  · obtain ⟨hg, h0, h1⟩ := blockB_geo' hb
    obtain ⟨g1, g2, g3, g4⟩ := geoB_iff.1 hg
    have HS : Hid (stripeN n s b = b / (n - 1)) := by unfold Hid stripeN; rw [if_pos hb]
    have d1 : 0 ≤ b / (n - 1) := Int.ediv_nonneg (by omega) (by omega)
    have d2 : b / (n - 1) ≤ b := Int.ediv_le_self _ (by omega)
    have e1 : ¬ n - 1 = 0 := by omega
    have e2 : IntKind.i64.wrap (b.tdiv (n - 1)) = b / (n - 1) := by rw [Int.tdiv_eq_ediv_of_nonneg h0]; exact IntWalk.i64_in _ (by omega)
    go_wp2
    go_ret
    exact ⟨ret_int HS.out.symm, B1⟩
  · have hb' : blockB n s b = false := by simpa using hb
    go_wp2
    go_ret
    exact ⟨ret_int (by unfold stripeN; rw [if_neg hb]), B1⟩

set_option maxHeartbeats 1600000 in
theorem specIndexOf_any (w : World) (n s b : Int) : Calls Tryz.prog 263 #[.agg #[.int .i64 n, .int .i64 s], .int .i64 b] w fun e w' => e = .returned (.int .i64 (indexN n s b)) ∧ Below w.heap.size w w' := by
  have hA := new_below w (.cells #[.int .i64 n, .int .i64 s] 25)
  have X := Gbox.new w 25 n s
  obtain ⟨k0, k1⟩ := X.cells
  have zA := X.lt
  have hr := blocksN_range n s
  have HR : Hid (inB b 0 (blocksN n s - 1) = blockB n s b) := rfl
  go_enter Tryz.func263, Tryz.ntmps263
  go_wp2_with fail
  refine (specBlocks_any _ _ _).mono ?_
  rintro e w1 ⟨rfl, b1⟩
  have X1 := X.below b1 zA
  have B1 := Below.andThen hA b1
  clear k0 k1 X b1 hA zA
  obtain ⟨k0, k1⟩ := X1.cells
  go_wp2_with fail
  refine (l1In_any _ _ _ _).mono ?_
  rintro e w2 ⟨rfl, rfl⟩
  rw [HR.out]
  by_cases hb : blockB n s b = true
  · obtain ⟨hg, h0, h1⟩ := blockB_geo' hb
    obtain ⟨g1, g2, g3, g4⟩ := geoB_iff.1 hg
    have HS : Hid (indexN n s b = b % (n - 1)) := by unfold Hid indexN; rw [if_pos hb]
    have e1 : ¬ n - 1 = 0 := by omega
    have e3 : b.tmod (n - 1) = b % (n - 1) := Int.tmod_eq_emod_of_nonneg h0
    go_wp2
    go_ret
    exact ⟨ret_int HS.out.symm, B1⟩
  · have hb' : blockB n s b = false := by simpa using hb
    go_wp2
    go_ret
    exact ⟨ret_int (by unfold indexN; rw [if_neg hb]), B1⟩

end Go.Proofs.YtbkkjfgjlapadaaGreat

/-
  What the specification answers of a command: how many blocks it has, whether its size is right, its code, its span, and whether two clash. Condition: at most 2097152 words each.
-/
namespace Go.Proofs.YtbkkjfgjlapadaaGreat
open Go.RowKit

set_option maxHeartbeats 1600000 in
theorem specLen13_any (w : World) (o d b k : Int) (a : Option Addr) (n cap : Nat) (zs : List Int) (hz : zs.length = n) (hr : Reads .i64 w a zs) (hn : n ≤ 2097152) :
    Calls Tryz.prog 210 #[.agg #[.int .i64 o, .int .i64 d, .int .i64 b, .int .i64 k, .slice a n cap]] w fun e w' => e = .returned (.int .i64 (lenC o k zs)) ∧ Below w.heap.size w w' := by
  have hA := new_below w (.cells #[.int .i64 o, .int .i64 d, .int .i64 b, .int .i64 k, .slice a n cap] 38)
  have hr' := hr.below hA
  subst hz
  by_cases h1 : o = 1
  · subst h1
    go_enter Tryz.func210, Tryz.ntmps210
    go_wp2
    go_ret
    exact ⟨ret_int (len1 (.inl rfl)).symm, hA⟩
  · skip
    by_cases h6 : o = 6
    · subst h6
      go_enter Tryz.func210, Tryz.ntmps210
      go_wp2
      go_ret
      exact ⟨ret_int (len1 (.inr rfl)).symm, hA⟩
    · skip
      by_cases h2 : o = 2
      · subst h2
        go_enter Tryz.func210, Tryz.ntmps210
        go_wp2
        go_ret
        exact ⟨ret_int (len2 (.inl rfl)).symm, hA⟩
      · skip
        by_cases h3 : o = 3
        · subst h3
          go_enter Tryz.func210, Tryz.ntmps210
          go_wp2
          go_ret
          exact ⟨ret_int (len2 (.inr rfl)).symm, hA⟩
        · skip
          by_cases h5 : o = 5
          · subst h5
            go_enter Tryz.func210, Tryz.ntmps210
            go_wp2
            go_ret
            exact ⟨ret_int (len5).symm, hA⟩
          · skip
            have hl := len0 (k := k) (zs := zs) (by omega : ¬ (o = 1 ∨ o = 6)) (by omega : ¬ (o = 2 ∨ o = 3)) h5
            go_enter Tryz.func210, Tryz.ntmps210
            go_wp2
            go_ret
            exact ⟨ret_int hl.symm, hA⟩

set_option maxHeartbeats 1600000 in
theorem specSize13_any (w : World) (o d b k : Int) (a : Option Addr) (n cap : Nat) (zs : List Int) (hz : zs.length = n) (hr : Reads .i64 w a zs) (hn : n ≤ 2097152) :
    Calls Tryz.prog 209 #[.agg #[.int .i64 o, .int .i64 d, .int .i64 b, .int .i64 k, .slice a n cap]] w fun e w' => e = .returned (.bool (sizeC o k zs)) ∧ Below w.heap.size w w' := by
  have hA := new_below w (.cells #[.int .i64 o, .int .i64 d, .int .i64 b, .int .i64 k, .slice a n cap] 38)
  have hr' := hr.below hA
  subst hz
  by_cases h1 : o = 1
  · subst h1
    go_enter Tryz.func209, Tryz.ntmps209
    go_wp2_with fail
    refine (l1In_any _ _ _ _).mono ?_
    rintro e w1 ⟨rfl, rfl⟩
    go_wp2
    go_ret
    exact ⟨ret_bool (size1 (.inl rfl)).symm, hA⟩
  · skip
    by_cases h6 : o = 6
    · subst h6
      go_enter Tryz.func209, Tryz.ntmps209
      go_wp2_with fail
      refine (l1In_any _ _ _ _).mono ?_
      rintro e w1 ⟨rfl, rfl⟩
      go_wp2
      go_ret
      exact ⟨ret_bool (size1 (.inr rfl)).symm, hA⟩
    · skip
      by_cases h2 : o = 2
      · subst h2
        have HS := hidden (size2 (.inl rfl) : sizeC 2 k zs = _)
        go_enter Tryz.func209, Tryz.ntmps209
        go_wp2_with fail
        refine (l1In_any _ _ _ _).mono ?_
        rintro e w1 ⟨rfl, rfl⟩
        cases hl : inB (zs.length : Int) 1 6
        · rw [hl] at HS
          go_wp2
          go_ret
          exact ⟨ret_bool HS.out.symm, hA⟩
        · rw [hl] at HS
          go_wp2_with fail
          refine (l1Words_any _ _ _ _ zs rfl hr' hn).mono ?_
          rintro e w1 ⟨rfl, rfl⟩
          go_wp2
          go_ret
          exact ⟨ret_bool HS.out.symm, hA⟩
      · skip
        by_cases h3 : o = 3
        · subst h3
          have HS := hidden (size2 (.inr rfl) : sizeC 3 k zs = _)
          go_enter Tryz.func209, Tryz.ntmps209
          go_wp2_with fail
          refine (l1In_any _ _ _ _).mono ?_
          rintro e w1 ⟨rfl, rfl⟩
          cases hl : inB (zs.length : Int) 1 6
          · rw [hl] at HS
            go_wp2
            go_ret
            exact ⟨ret_bool HS.out.symm, hA⟩
          · rw [hl] at HS
            go_wp2_with fail
            refine (l1Words_any _ _ _ _ zs rfl hr' hn).mono ?_
            rintro e w1 ⟨rfl, rfl⟩
            go_wp2
            go_ret
            exact ⟨ret_bool HS.out.symm, hA⟩
        · skip
          by_cases h5 : o = 5
          · subst h5
            have HS := hidden (size5 (k := k) (zs := zs))
            go_enter Tryz.func209, Tryz.ntmps209
            by_cases hl : zs.length = 2
            · obtain ⟨hd, hd'⟩ := two_len hl
              rw [show (zs.length == 2) = true by simpa using hl] at HS
              clear hl
              go_wp2_with fail
              refine (l1Words_any _ _ _ _ zs rfl hr' hn).mono ?_
              rintro e w1 ⟨rfl, rfl⟩
              go_wp2
              go_ret
              exact ⟨ret_bool HS.out.symm, hA⟩
            · obtain ⟨hd, hd'⟩ := two_len' hl
              rw [show (zs.length == 2) = false by simpa using hl] at HS
              go_wp2
              go_ret
              exact ⟨ret_bool HS.out.symm, hA⟩
          · have hl := size0 (k := k) (zs := zs) (by omega : ¬ (o = 1 ∨ o = 6)) (by omega : ¬ (o = 2 ∨ o = 3)) h5
            go_enter Tryz.func209, Tryz.ntmps209
            go_wp2
            go_ret
            exact ⟨ret_bool hl.symm, hA⟩

set_option maxHeartbeats 3200000 in
theorem specCmdCode_any (w : World) (gn gs : Int) (o d b k : Int) (a : Option Addr) (n cap : Nat) (zs : List Int) (hz : zs.length = n) (hr : Reads .i64 w a zs) (hn : n ≤ 2097152) :
    Calls Tryz.prog 145 #[.agg #[.int .i64 gn, .int .i64 gs], .agg #[.int .i64 o, .int .i64 d, .int .i64 b, .int .i64 k, .slice a n cap]] w fun e w' => e = .returned (.int .i64 (codeC gn gs o d b k zs)) ∧ Below w.heap.size w w' := by
  have hA : Below w.heap.size w ((w.alloc (.cells #[.int .i64 gn, .int .i64 gs] 25)).alloc (.cells #[.int .i64 o, .int .i64 d, .int .i64 b, .int .i64 k, .slice a n cap] 38)) := (new_below w _).alloc (by simp) _
  have G : Box ((w.alloc (.cells #[.int .i64 gn, .int .i64 gs] 25)).alloc (.cells #[.int .i64 o, .int .i64 d, .int .i64 b, .int .i64 k, .slice a n cap] 38)) w.heap.size 25 #[.int .i64 gn, .int .i64 gs] := (Box.new w _ _).below (new_below _ _) (by simp)
  have X : Box ((w.alloc (.cells #[.int .i64 gn, .int .i64 gs] 25)).alloc (.cells #[.int .i64 o, .int .i64 d, .int .i64 b, .int .i64 k, .slice a n cap] 38)) (w.heap.size + 1) 38 #[.int .i64 o, .int .i64 d, .int .i64 b, .int .i64 k, .slice a n cap] := by
    have := Box.new (w.alloc (.cells #[.int .i64 gn, .int .i64 gs] 25)) 38 #[.int .i64 o, .int .i64 d, .int .i64 b, .int .i64 k, .slice a n cap]
    simpa using this
  have hr' := hr.below hA
  subst hz
  obtain ⟨g0, g1⟩ := G.cells2
  obtain ⟨c0, c1, c2, c3, c4⟩ := X.cells5
  go_enter Tryz.func145, Tryz.ntmps145
  go_wp2_with fail
  generalize (w.alloc (.cells #[.int .i64 gn, .int .i64 gs] 25)).alloc (.cells #[.int .i64 o, .int .i64 d, .int .i64 b, .int .i64 k, .slice a zs.length cap] 38) = W0 at hA G X hr' g0 g1 c0 c1 c2 c3 c4 ⊢
  have B0 := hA
  have G0 := G
  have X0 := X
  have R0 := hr'
  clear hA G X hr' hr
  go_wp2_with fail
  refine (specGeoOk_any _ _ _).mono ?_
  rintro e w1 ⟨rfl, b1⟩
  have B1 := Below.andThen B0 b1
  have G1 := G0.below b1 G0.lt
  have X1 := X0.below b1 X0.lt
  have R1 := R0.below b1
  clear g0 g1 c0 c1 c2 c3 c4
  obtain ⟨g0, g1⟩ := G1.cells2
  obtain ⟨c0, c1, c2, c3, c4⟩ := X1.cells5
  clear B0 G0 X0 R0 b1
  cases hg : geoB gn gs
  · have HF := hidden (code_form (b := b) (k := k) (zs := zs) (form_geo (o := o) (d := d) hg))
    go_wp2
    go_ret
    exact ⟨ret_int HF.out.symm, B1⟩
  · skip
    go_wp2_with fail
    refine (l1In_any _ _ _ _).mono ?_
    rintro e w2 ⟨rfl, hw⟩
    subst w2
    cases ho : inB o 1 6
    · have HF := hidden (code_form (b := b) (k := k) (zs := zs) (form_op (gn := gn) (gs := gs) (d := d) ho))
      go_wp2
      go_ret
      exact ⟨ret_int HF.out.symm, B1⟩
    · skip
      go_wp2_with fail
      refine (l1In_any _ _ _ _).mono ?_
      rintro e w3 ⟨rfl, hw⟩
      subst w3
      cases hi : inB d 1 999
      · have HF := hidden (code_form (b := b) (k := k) (zs := zs) (form_id (gn := gn) (gs := gs) (o := o) hi))
        go_wp2
        go_ret
        exact ⟨ret_int HF.out.symm, B1⟩
      · have HC := hidden (code_rest (b := b) (k := k) (zs := zs) (form_all hg ho hi))
        go_wp2_with fail
        refine (specSize13_any _ o d b k _ _ _ zs rfl R1 hn).mono ?_
        rintro e w4 ⟨rfl, b4⟩
        have B4 := Below.andThen B1 b4
        have G4 := G1.below b4 G1.lt
        have X4 := X1.below b4 X1.lt
        have R4 := R1.below b4
        clear g0 g1 c0 c1 c2 c3 c4
        obtain ⟨g0, g1⟩ := G4.cells2
        obtain ⟨c0, c1, c2, c3, c4⟩ := X4.cells5
        clear B1 G1 X1 R1 b4
        cases hs : sizeC o k zs
        · have HR := hidden (HC.out.trans (rest_bad13 (gn := gn) (gs := gs) (b := b) hs))
          go_wp2
          go_ret
          exact ⟨ret_int HR.out.symm, B4⟩
        · by_cases h4 : o = 4
          · subst h4
            have HR := hidden (HC.out.trans rest_flush)
            go_wp2
            go_ret
            exact ⟨ret_int HR.out.symm, B4⟩
          · have hbr := blocksN_range gn gs
            obtain ⟨hl0, hl1, _⟩ := size_len hs
            have zg := G4.lt
            have zx := X4.lt
            have hwr : IntKind.i64.wrap (blocksN gn gs - lenC o k zs) = blocksN gn gs - lenC o k zs := IntWalk.i64_in _ (by omega)
            go_wp2_with fail
            go_region_held3 (fun w' => w'.cell? ⟨w.heap.size, 0, none⟩ = some (.int .i64 gn) ∧ w'.cell? ⟨w.heap.size, 1, none⟩ = some (.int .i64 gs) ∧ w'.cell? ⟨w.heap.size + 1, 0, none⟩ = some (.int .i64 o) ∧ w'.cell? ⟨w.heap.size + 1, 1, none⟩ = some (.int .i64 d) ∧ w'.cell? ⟨w.heap.size + 1, 2, none⟩ = some (.int .i64 b) ∧ w'.cell? ⟨w.heap.size + 1, 3, none⟩ = some (.int .i64 k) ∧ w'.cell? ⟨w.heap.size + 1, 4, none⟩ = some (.slice a zs.length cap))
              (first | (exact ⟨(q6.cell (p := ⟨w.heap.size, 0, none⟩) zg).trans g0, (q6.cell (p := ⟨w.heap.size, 1, none⟩) zg).trans g1, (q6.cell (p := ⟨w.heap.size + 1, 0, none⟩) zx).trans c0, (q6.cell (p := ⟨w.heap.size + 1, 1, none⟩) zx).trans c1, (q6.cell (p := ⟨w.heap.size + 1, 2, none⟩) zx).trans c2, (q6.cell (p := ⟨w.heap.size + 1, 3, none⟩) zx).trans c3, (q6.cell (p := ⟨w.heap.size + 1, 4, none⟩) zx).trans c4⟩) | (exact ⟨(q5.cell (p := ⟨w.heap.size, 0, none⟩) zg).trans g0, (q5.cell (p := ⟨w.heap.size, 1, none⟩) zg).trans g1, (q5.cell (p := ⟨w.heap.size + 1, 0, none⟩) zx).trans c0, (q5.cell (p := ⟨w.heap.size + 1, 1, none⟩) zx).trans c1, (q5.cell (p := ⟨w.heap.size + 1, 2, none⟩) zx).trans c2, (q5.cell (p := ⟨w.heap.size + 1, 3, none⟩) zx).trans c3, (q5.cell (p := ⟨w.heap.size + 1, 4, none⟩) zx).trans c4⟩) | (exact ⟨g0, g1, c0, c1, c2, c3, c4⟩) | go_keep)
              (first | (go_at_call 71; refine (l1In_any _ _ _ _).mono ?_; rintro e w7 ⟨rfl, hw⟩; subst w7) | (go_at_call 210; refine (specLen13_any _ o d b k _ _ _ zs rfl (by exact R4.below q5) hn).mono ?_; rintro e w6 ⟨rfl, p6⟩; have q6 : Below w4.heap.size w4 w6 := Below.andThen q5 p6) | (go_at_call 147; refine (specBlocks_any _ _ _).mono ?_; rintro e w5 ⟨rfl, p5⟩; have q5 : Below w4.heap.size w4 w5 := (Below.refl w4.heap.size w4).drew.trans p5))
            cases hx : inB b 0 (blocksN gn gs - lenC o k zs)
            · have HR := hidden (HC.out.trans (rest_out hs h4 hx))
              go_wp2
              go_ret
              exact ⟨ret_int HR.out.symm, (Below.andThen B4 q6)⟩
            · have HR := hidden (HC.out.trans (rest_in hs hx))
              go_wp2
              go_ret
              exact ⟨ret_int HR.out.symm, (Below.andThen B4 q6)⟩

set_option maxHeartbeats 3200000 in
theorem specSpanOf_any (w : World) (gn gs : Int) (o d b k : Int) (a : Option Addr) (n cap : Nat) (zs : List Int) (hz : zs.length = n) (hr : Reads .i64 w a zs) (hn : n ≤ 2097152) :
    Calls Tryz.prog 223 #[.agg #[.int .i64 gn, .int .i64 gs], .agg #[.int .i64 o, .int .i64 d, .int .i64 b, .int .i64 k, .slice a n cap]] w fun e w' => e = .returned (.tuple #[.int .i64 (spanC gn gs o d b k zs).1, .int .i64 (spanC gn gs o d b k zs).2]) ∧ Below w.heap.size w w' := by
  have hA : Below w.heap.size w ((w.alloc (.cells #[.int .i64 gn, .int .i64 gs] 25)).alloc (.cells #[.int .i64 o, .int .i64 d, .int .i64 b, .int .i64 k, .slice a n cap] 38)) := (new_below w _).alloc (by simp) _
  have G : Box ((w.alloc (.cells #[.int .i64 gn, .int .i64 gs] 25)).alloc (.cells #[.int .i64 o, .int .i64 d, .int .i64 b, .int .i64 k, .slice a n cap] 38)) w.heap.size 25 #[.int .i64 gn, .int .i64 gs] := (Box.new w _ _).below (new_below _ _) (by simp)
  have X : Box ((w.alloc (.cells #[.int .i64 gn, .int .i64 gs] 25)).alloc (.cells #[.int .i64 o, .int .i64 d, .int .i64 b, .int .i64 k, .slice a n cap] 38)) (w.heap.size + 1) 38 #[.int .i64 o, .int .i64 d, .int .i64 b, .int .i64 k, .slice a n cap] := by
    have := Box.new (w.alloc (.cells #[.int .i64 gn, .int .i64 gs] 25)) 38 #[.int .i64 o, .int .i64 d, .int .i64 b, .int .i64 k, .slice a n cap]
    simpa using this
  have hr' := hr.below hA
  subst hz
  obtain ⟨g0, g1⟩ := G.cells2
  obtain ⟨c0, c1, c2, c3, c4⟩ := X.cells5
  go_enter Tryz.func223, Tryz.ntmps223
  go_wp2_with fail
  generalize (w.alloc (.cells #[.int .i64 gn, .int .i64 gs] 25)).alloc (.cells #[.int .i64 o, .int .i64 d, .int .i64 b, .int .i64 k, .slice a zs.length cap] 38) = W0 at hA G X hr' g0 g1 c0 c1 c2 c3 c4 ⊢
  have B0 := hA
  have G0 := G
  have X0 := X
  have R0 := hr'
  clear hA G X hr' hr
  go_wp2_with fail
  refine (specCmdCode_any _ gn gs o d b k _ _ _ zs rfl R0 hn).mono ?_
  rintro e w1 ⟨rfl, b1⟩
  have B1 := Below.andThen B0 b1
  have G1 := G0.below b1 G0.lt
  have X1 := X0.below b1 X0.lt
  have R1 := R0.below b1
  clear g0 g1 c0 c1 c2 c3 c4
  obtain ⟨g0, g1⟩ := G1.cells2
  obtain ⟨c0, c1, c2, c3, c4⟩ := X1.cells5
  clear B0 G0 X0 R0 b1
  by_cases hc : codeC gn gs o d b k zs = 0
  · have hcb : (codeC gn gs o d b k zs == 0) = true := by simpa using hc
    by_cases h4 : o = 4
    · subst h4
      have HS := hidden (span_flush hc)
      go_wp2_with fail
      refine (specBlocks_any _ _ _).mono ?_
      rintro e w2 ⟨rfl, b2⟩
      have B2 := Below.andThen B1 b2
      go_wp2
      refine bodyPost_ret (v := .tuple #[.int .i64 0, .int .i64 (blocksN gn gs)]) (by simp [results, Tryz.results223, go_sem]) rfl ?_
      exact ⟨by rw [HS.out], B2⟩
    · have HS := hidden (span_own hc h4)
      obtain ⟨_, hsz, hro⟩ := code_good13 hc
      have hro' : 0 ≤ b ∧ b + lenC o k zs ≤ blocksN gn gs := hro.resolve_left h4
      have hwr : IntKind.i64.wrap (b + lenC o k zs) = b + lenC o k zs := IntWalk.i64_in _ (by have := (size_len hsz).1; have := blocksN_range gn gs; omega)
      have hbr := blocksN_range gn gs
      obtain ⟨hl0, hl1, _⟩ := size_len hsz
      have zg := G1.lt
      have zx := X1.lt
      clear hro
      go_wp2_with fail
      go_region_held3 (fun w' => w'.cell? ⟨w.heap.size, 0, none⟩ = some (.int .i64 gn) ∧ w'.cell? ⟨w.heap.size, 1, none⟩ = some (.int .i64 gs) ∧ w'.cell? ⟨w.heap.size + 1, 0, none⟩ = some (.int .i64 o) ∧ w'.cell? ⟨w.heap.size + 1, 1, none⟩ = some (.int .i64 d) ∧ w'.cell? ⟨w.heap.size + 1, 2, none⟩ = some (.int .i64 b) ∧ w'.cell? ⟨w.heap.size + 1, 3, none⟩ = some (.int .i64 k) ∧ w'.cell? ⟨w.heap.size + 1, 4, none⟩ = some (.slice a zs.length cap))
        (first | (exact ⟨(q2.cell (p := ⟨w.heap.size, 0, none⟩) zg).trans g0, (q2.cell (p := ⟨w.heap.size, 1, none⟩) zg).trans g1, (q2.cell (p := ⟨w.heap.size + 1, 0, none⟩) zx).trans c0, (q2.cell (p := ⟨w.heap.size + 1, 1, none⟩) zx).trans c1, (q2.cell (p := ⟨w.heap.size + 1, 2, none⟩) zx).trans c2, (q2.cell (p := ⟨w.heap.size + 1, 3, none⟩) zx).trans c3, (q2.cell (p := ⟨w.heap.size + 1, 4, none⟩) zx).trans c4⟩) | (exact ⟨g0, g1, c0, c1, c2, c3, c4⟩) | go_keep)
        (first | (go_at_call 210; refine (specLen13_any _ o d b k _ _ _ zs rfl (by exact R1.draw) hn).mono ?_; rintro e w2 ⟨rfl, p2⟩; have q2 : Below w1.heap.size w1 w2 := (Below.refl w1.heap.size w1).drew.trans p2))
      go_wp2
      refine bodyPost_ret (v := .tuple #[.int .i64 b, .int .i64 (b + lenC o k zs)]) (by simp [results, Tryz.results223, go_sem]) rfl ?_
      exact ⟨by rw [HS.out], Below.andThen B1 q2⟩
  · have HS := hidden (span_bad hc)
    go_wp2
    refine bodyPost_ret (v := .tuple #[.int .i64 0, .int .i64 0]) (by simp [results, Tryz.results223, go_sem]) rfl ?_
    exact ⟨by rw [HS.out], B1⟩

set_option maxHeartbeats 3200000 in
theorem specClash_any (w : World) (gn gs o d b k : Int) (a : Option Addr) (n cap : Nat) (zs : List Int) (o2 d2 b2 k2 : Int) (a2 : Option Addr) (n2 cap2 : Nat) (zs2 : List Int) (hz : zs.length = n) (hr : Reads .i64 w a zs) (hn : n ≤ 2097152) (hz2 : zs2.length = n2) (hr2 : Reads .i64 w a2 zs2) (hn2 : n2 ≤ 2097152) :
    Calls Tryz.prog 156 #[.agg #[.int .i64 gn, .int .i64 gs], .agg #[.int .i64 o, .int .i64 d, .int .i64 b, .int .i64 k, .slice a n cap], .agg #[.int .i64 o2, .int .i64 d2, .int .i64 b2, .int .i64 k2, .slice a2 n2 cap2]] w fun e w' => e = .returned (.bool (metC (spanC gn gs o d b k zs) (spanC gn gs o2 d2 b2 k2 zs2))) ∧ Below w.heap.size w w' := by
  have hA : Below w.heap.size w (((w.alloc (.cells #[.int .i64 gn, .int .i64 gs] 25)).alloc (.cells #[.int .i64 o, .int .i64 d, .int .i64 b, .int .i64 k, .slice a n cap] 38)).alloc (.cells #[.int .i64 o2, .int .i64 d2, .int .i64 b2, .int .i64 k2, .slice a2 n2 cap2] 38)) := ((new_below w _).alloc (by simp) _).alloc (by simp; omega) _
  have G : Box (((w.alloc (.cells #[.int .i64 gn, .int .i64 gs] 25)).alloc (.cells #[.int .i64 o, .int .i64 d, .int .i64 b, .int .i64 k, .slice a n cap] 38)).alloc (.cells #[.int .i64 o2, .int .i64 d2, .int .i64 b2, .int .i64 k2, .slice a2 n2 cap2] 38)) w.heap.size 25 #[.int .i64 gn, .int .i64 gs] := ((Box.new w _ _).below (new_below _ _) (by simp)).below (new_below _ _) (by simp; omega)
  have X : Box (((w.alloc (.cells #[.int .i64 gn, .int .i64 gs] 25)).alloc (.cells #[.int .i64 o, .int .i64 d, .int .i64 b, .int .i64 k, .slice a n cap] 38)).alloc (.cells #[.int .i64 o2, .int .i64 d2, .int .i64 b2, .int .i64 k2, .slice a2 n2 cap2] 38)) (w.heap.size + 1) 38 #[.int .i64 o, .int .i64 d, .int .i64 b, .int .i64 k, .slice a n cap] := by
    have := (Box.new (w.alloc (.cells #[.int .i64 gn, .int .i64 gs] 25)) 38 #[.int .i64 o, .int .i64 d, .int .i64 b, .int .i64 k, .slice a n cap]).below (new_below _ (.cells #[.int .i64 o2, .int .i64 d2, .int .i64 b2, .int .i64 k2, .slice a2 n2 cap2] 38)) (by simp)
    simpa using this
  have Y : Box (((w.alloc (.cells #[.int .i64 gn, .int .i64 gs] 25)).alloc (.cells #[.int .i64 o, .int .i64 d, .int .i64 b, .int .i64 k, .slice a n cap] 38)).alloc (.cells #[.int .i64 o2, .int .i64 d2, .int .i64 b2, .int .i64 k2, .slice a2 n2 cap2] 38)) (w.heap.size + 1 + 1) 38 #[.int .i64 o2, .int .i64 d2, .int .i64 b2, .int .i64 k2, .slice a2 n2 cap2] := by
    have := Box.new ((w.alloc (.cells #[.int .i64 gn, .int .i64 gs] 25)).alloc (.cells #[.int .i64 o, .int .i64 d, .int .i64 b, .int .i64 k, .slice a n cap] 38)) 38 #[.int .i64 o2, .int .i64 d2, .int .i64 b2, .int .i64 k2, .slice a2 n2 cap2]
    simpa using this
  have hr' := hr.below hA
  have hr2' := hr2.below hA
  generalize hP : spanC gn gs o d b k zs = P
  generalize hQ : spanC gn gs o2 d2 b2 k2 zs2 = Q
  obtain ⟨p0, p1⟩ := P
  obtain ⟨q0, q1⟩ := Q
  have HP := hidden hP
  have HQ := hidden hQ
  clear hP hQ hr hr2
  obtain ⟨g0, g1⟩ := G.cells2
  obtain ⟨c0, c1, c2, c3, c4⟩ := X.cells5
  go_enter Tryz.func156, Tryz.ntmps156
  go_wp2_with fail
  generalize (((w.alloc (.cells #[.int .i64 gn, .int .i64 gs] 25)).alloc (.cells #[.int .i64 o, .int .i64 d, .int .i64 b, .int .i64 k, .slice a n cap] 38)).alloc (.cells #[.int .i64 o2, .int .i64 d2, .int .i64 b2, .int .i64 k2, .slice a2 n2 cap2] 38)) = W0 at hA G X Y hr' hr2' g0 g1 c0 c1 c2 c3 c4 ⊢
  refine (specSpanOf_any _ gn gs o d b k _ _ _ zs hz hr' hn).mono ?_
  rintro e w1 ⟨rfl, b1⟩
  rw [HP.out]
  have B1 := Below.andThen hA b1
  have G1 := G.below b1 G.lt
  have Y1 := Y.below b1 Y.lt
  have R1 := hr2'.below b1
  clear g0 g1 c0 c1 c2 c3 c4 G X Y hr' hr2' hA b1
  obtain ⟨g0, g1⟩ := G1.cells2
  obtain ⟨c0, c1, c2, c3, c4⟩ := Y1.cells5
  go_wp2_with fail
  refine (specSpanOf_any _ gn gs o2 d2 b2 k2 _ _ _ zs2 hz2 R1 hn2).mono ?_
  rintro e w2 ⟨rfl, b2⟩
  have B2 := Below.andThen B1 b2
  clear g0 g1 c0 c1 c2 c3 c4 G1 Y1 R1 B1 b2
  rw [HQ.out]
  by_cases h1 : p0 < q1
  · by_cases h2 : q0 < p1
    · go_wp2
      go_ret
      exact ⟨ret_bool (by simp [metC, h1, h2]), B2⟩
    · go_wp2
      go_ret
      exact ⟨ret_bool (by simp [metC]; omega), B2⟩
  · go_wp2
    go_ret
    exact ⟨ret_bool (by simp [metC]; omega), B2⟩

end Go.Proofs.YtbkkjfgjlapadaaGreat

/-
  The walk of l15Begin: the command at a place among those that wait is taken out; it is answered, or a job. Conditions: it is there; the engine weighs at most 1048576.
-/
namespace Go.Proofs.YtbkkjfgjlapadaaGreat
open Go.RowKit

set_option maxRecDepth 20000 in
set_option maxHeartbeats 6400000 in
theorem l15Begin_any (w : World) (N lo : Nat) (e : EngD) (F : List Nat) (m : Nat) (o d b n : Int) (zs : List Int) (h : EngAt w N lo e F) (hlo : lo ≤ w.heap.size) (hNlo : lo ≤ N) (hk : e.ws[m]? = some (o, d, b, n, zs)) (hw : wtEng e ≤ 1048576) :
    Calls Tryz.prog 65 #[.pointer (some ⟨N, 0, none⟩), .int .i64 (m : Int)] w fun e' w' => e' = .returned (.tuple #[]) ∧ (∃ F', EngAt w' N lo (begC e m (o, d, b, n, zs)) F') ∧ Turned (N :: F) w w' := by
  obtain ⟨vm, vd, vw, vj, va, vu, f0, f1, f2, f3, f4, f5, rfl, X, P, hN⟩ := h
  obtain ⟨x, ms, ds, ws, js, an, ts⟩ := e
  have HT : wtArr ms ds + wttCmdS ws + wttJobS js + wttAnsS an + wttTurnS ts ≤ 1048576 := hw
  clear hw
  replace hk : ws[m]? = some (o, d, b, n, zs) := hk
  have hml : m < ws.length := (List.getElem?_eq_some_iff.1 hk).1
  obtain ⟨n0, n1, n2, n3, n4, n5⟩ := not_six.1 hN
  obtain ⟨aw, cw, rfl⟩ := row_shape P.m2.rd
  obtain ⟨aj, cj, rfl⟩ := row_shape P.m3.rd
  obtain ⟨g, rfl⟩ : ∃ g, aw = some ⟨g, 0, none⟩ := by
    rcases row_ow_shape P.m2 with h0 | h0
    · have h0 : ws.length = 0 := h0
      omega
    · exact h0
  obtain ⟨_, hcw, hmc⟩ := row_length P.m2.rd
  have X : Box w N 35 #[.int .i64 x.id, .int .i64 x.n, .int .i64 x.s, vm, .int .i64 x.lost, .int .i64 x.built, .int .i64 x.seq, .int .i64 x.tail, .int .i64 x.gen, vd, .int .i64 x.fuse, .bool x.down, .bool x.broken, .slice (some ⟨g, 0, none⟩) ws.length cw, .slice aj js.length cj, va, vu] := X
  have hwl : ws.length ≤ 1048576 := by unfold wttCmdS at HT; omega
  have hjl : js.length ≤ 1048576 := by unfold wttJobS at HT; omega
  have hal : an.length ≤ 1048576 := by unfold wttAnsS at HT; omega
  have htl : ts.length ≤ 1048576 := by unfold wttTurnS at HT; omega
  have hzl : zs.length ≤ 1048576 := by
    have := cmd_inner hk
    unfold wttCmdS at HT
    simp only at this
    omega
  obtain ⟨av, cv, hc0, hc1, hc2, hc3, hc4, hr0⟩ : ∃ av cv, w.cell? ⟨g, m * 5, none⟩ = some (.int .i64 o) ∧ w.cell? ⟨g, m * 5 + 1, none⟩ = some (.int .i64 d) ∧ w.cell? ⟨g, m * 5 + 2, none⟩ = some (.int .i64 b) ∧ w.cell? ⟨g, m * 5 + 3, none⟩ = some (.int .i64 n) ∧ w.cell? ⟨g, m * 5 + 4, none⟩ = some (.slice av zs.length cv) ∧ tIntS.Rd w [.slice av zs.length cv] zs := by
    rcases cmdS_at P.m2.rd with h0 | ⟨b', off, he, _, hcs⟩
    · have h0 : ws.length = 0 := h0
      omega
    · simp only [Option.some.injEq, Addr.mk.injEq, and_true] at he
      obtain ⟨rfl, rfl⟩ := he
      have := hcs m o d b n zs hk
      simpa only [Nat.zero_add] using this
  have lN := X.lt
  have k13 := X.cell 13
  have t1 : (0 : Int) ≤ (m : Int) := by omega
  have t2 : (m : Int) < (ws.length : Int) := by omega
  have hwr : IntKind.i64.wrap ((m : Int) + 1) = (m : Int) + 1 := IntWalk.i64_in _ (by omega)
  go_enter Tryz.func65, Tryz.ntmps65
  go_wp2_with (first | (refine wpList_store_new rfl _ _ _ rfl rfl rfl rfl Tryz.szCmd15 (by rfl) ?_; intro V C b0; have lC := C.lt; have zB := b0.size; have X := X.below b0 lN; have lX := X.lt; clear k13; have k13 := X.cell 13; have T0 := Turned.ofBelow b0 (N :: (f0 ++ (f1 ++ (f2 ++ (f3 ++ (f4 ++ f5))))))) | fail)
  have hx5 := hc4
  clear hc0 hc1 hc2 hc3
  have P1 := P.turned (Turned.ofBelow b0 []) (by simp)
  obtain ⟨cur, hcur⟩ := mine_block P.m2
  have hgl : g < w.heap.size := P.m2.lt g (row_parts P.m2).1
  have hgV : V.heap[g]? = some (.cells cur 38 (0, 0)) := (b0.block g hgl).trans hcur
  have hcs : cur.size = cw * 5 := by
    rcases P.m2.1 with ⟨h1, _⟩ | ⟨b', cap', cur', fps, h1, h2, h3, h4, h5, _⟩
    · simp at h1
    · simp only [List.cons.injEq, Value.slice.injEq, Option.some.injEq, Addr.mk.injEq, and_true] at h1
      obtain ⟨rfl, _, rfl⟩ := h1
      rw [hcur] at h4
      simp at h4
      rw [h4]
      exact h5
  have hl0 : cur.toList.length = cw * 5 := by rw [Array.length_toList]; exact hcs
  obtain ⟨va1, hva⟩ : ∃ va1, va1 = cur.toList.take (m * 5) := ⟨_, rfl⟩
  obtain ⟨vb1, hvb⟩ : ∃ vb1, vb1 = (cur.toList.drop ((m + 1) * 5)).take ((ws.length - (m + 1)) * 5) := ⟨_, rfl⟩
  have hla : va1.length = m * 5 := by rw [hva, List.length_take, hl0]; omega
  have hlb : vb1.length = (ws.length - (m + 1)) * 5 := by rw [hvb, List.length_take, List.length_drop, hl0]; omega
  have hca : Hid (∀ t u, va1[t]? = some u → V.cell? ((⟨g, 0, none⟩ : Addr).add t) = some u) := fun t u hu => by
    rw [hva, List.getElem?_take] at hu
    split at hu
    · rw [Array.getElem?_toList] at hu
      rw [Addr.add_lit, Nat.zero_add]
      exact (cell_of_row V g _ cur 38 (0, 0) hgV).trans hu
    · cases hu
  obtain ⟨Ad, hAd, hcb⟩ : ∃ Ad : Addr, (if cw = m + 1 then some (⟨g, 0, none⟩ : Addr) else some ⟨g, (m + 1) * 5, none⟩) = some Ad ∧ Hid (∀ t u, vb1[t]? = some u → V.cell? (Ad.add t) = some u) ∧ Hid (Ad.block = g) := by
    by_cases h : cw = m + 1
    · refine ⟨⟨g, 0, none⟩, by simp [h], fun t u hu => ?_, rfl⟩
      have h0 : vb1.length = 0 := by rw [hlb]; omega
      rw [List.length_eq_zero_iff.1 h0] at hu
      simp at hu
    · refine ⟨⟨g, (m + 1) * 5, none⟩, by simp [h], fun t u hu => ?_, rfl⟩
      have ht : t < (ws.length - (m + 1)) * 5 := by
        have := (List.getElem?_eq_some_iff.1 hu).1
        rwa [hlb] at this
      rw [hvb, List.getElem?_take, if_pos ht, List.getElem?_drop, Array.getElem?_toList] at hu
      rw [Addr.add_lit]
      exact (cell_of_row V g _ cur 38 (0, 0) hgV).trans hu
  obtain ⟨hcb, hAb⟩ := hcb
  have hone : ∀ q u, cur.toList[q]? = some u → q < ws.length * 5 → u.oneCell' = true := fun q u hu hq => row_plain P.m2 (pair_one int_one (pair_one int_one (pair_one int_one (pair_one int_one row_one)))) hcur hu hq
  have h1a : Hid (∀ u ∈ va1, u.oneCell' = true) := fun u hu => by
    obtain ⟨t, ht⟩ := List.mem_iff_getElem?.1 hu
    have hl := (List.getElem?_eq_some_iff.1 ht).1
    rw [hla] at hl
    rw [hva, List.getElem?_take, if_pos hl] at ht
    exact hone t u ht (by omega)
  have h1b : Hid (∀ u ∈ vb1, u.oneCell' = true) := fun u hu => by
    obtain ⟨t, ht⟩ := List.mem_iff_getElem?.1 hu
    have hl := (List.getElem?_eq_some_iff.1 ht).1
    rw [hlb] at hl
    rw [hvb, List.getElem?_take, if_pos hl, List.getElem?_drop] at ht
    exact hone _ u ht (by omega)
  have hlen3 : m + (ws.length - (m + 1)) = ws.length - 1 := by omega
  have tk1 : (m : Int) ≤ (cw : Int) := by omega
  have tk2 : (m : Int) + 1 ≤ (ws.length : Int) := by omega
  have tk3 : (ws.length : Int) ≤ (cw : Int) := by omega
  have tk4 : (0 : Int) ≤ (m : Int) + 1 := by omega
  obtain ⟨i0, hi, hz0, hz1, hz2⟩ := info_parts Tryz.infoCmd14
  have HVA := hidden hva
  have HVB := hidden hvb
  have HLA := hidden hla
  have HLB := hidden hlb
  have HGV := hidden hgV
  have HL3 := hidden hlen3
  clear hva hvb hla hlb hcs hl0 hone hlen3 hcur hgV
  refine Late.start (S := fun w' => (∀ q, w'.cell? ⟨N, q, none⟩ = V.cell? ⟨N, q, none⟩)) (k := 19) (by kernel_rfl) ?_
  have hS : (∀ q, V.drew.cell? ⟨N, q, none⟩ = V.cell? ⟨N, q, none⟩) := fun _ => rfl
  refine Late.take (i := 0) (v := ?_) rfl (by kernel_rfl) (by kernel_rfl) (by kernel_rfl) (by kernel_rfl) (fun _ _ _ h => h) (Or.inl ⟨by rfl, ?_⟩) hS ?_
  rotate_left 1
  · (intro w hSw; (try dsimp only at hSw); go_split_ands; go_simp; first | done | with_reducible rfl)
  simp only [Act.put, List.setIfInBounds_toArray, List.set_cons_zero, List.set_cons_succ]
  refine Late.take (i := 2) (v := ?_) rfl (by kernel_rfl) (by kernel_rfl) (by kernel_rfl) (by kernel_rfl) (fun _ _ _ h => h) (Or.inl ⟨by rfl, ?_⟩) hS ?_
  rotate_left 1
  · (intro w hSw; (try dsimp only at hSw); go_split_ands; go_simp; first | done | with_reducible rfl)
  simp only [Act.put, List.setIfInBounds_toArray, List.set_cons_zero, List.set_cons_succ]
  refine Late.take (i := 3) (v := ?_) rfl (by kernel_rfl) (by kernel_rfl) (by kernel_rfl) (by kernel_rfl) (fun _ _ _ h => h) (Or.inl ⟨by rfl, ?_⟩) hS ?_
  rotate_left 1
  · (intro w hSw; (try dsimp only at hSw); go_split_ands; go_simp; first | done | with_reducible rfl)
  simp only [Act.put, List.setIfInBounds_toArray, List.set_cons_zero, List.set_cons_succ]
  refine Late.take (i := 4) (v := ?_) rfl (by kernel_rfl) (by kernel_rfl) (by kernel_rfl) (by kernel_rfl) (fun _ _ _ h => h) (Or.inl ⟨by rfl, ?_⟩) hS ?_
  rotate_left 1
  · (intro w hSw; (try dsimp only at hSw); go_split_ands; go_simp; first | done | with_reducible rfl)
  simp only [Act.put, List.setIfInBounds_toArray, List.set_cons_zero, List.set_cons_succ]
  refine Late.take (i := 5) (v := ?_) rfl (by kernel_rfl) (by kernel_rfl) (by kernel_rfl) (by kernel_rfl) (fun _ _ _ h => h) (Or.inl ⟨by rfl, ?_⟩) hS ?_
  rotate_left 1
  · (intro w hSw; (try dsimp only at hSw); go_split_ands; go_simp; first | done | with_reducible rfl)
  simp only [Act.put, List.setIfInBounds_toArray, List.set_cons_zero, List.set_cons_succ]
  refine Late.take (i := 6) (v := ?_) rfl (by kernel_rfl) (by kernel_rfl) (by kernel_rfl) (by kernel_rfl) (fun _ _ _ h => h) (Or.inl ⟨by rfl, ?_⟩) hS ?_
  rotate_left 1
  · (intro w hSw; (try dsimp only at hSw); go_split_ands; go_simp; first | done | with_reducible rfl)
  simp only [Act.put, List.setIfInBounds_toArray, List.set_cons_zero, List.set_cons_succ]
  refine Late.take (i := 7) (v := ?_) rfl (by kernel_rfl) (by kernel_rfl) (by kernel_rfl) (by kernel_rfl) (fun _ _ _ h => h) (Or.inl ⟨by rfl, ?_⟩) hS ?_
  rotate_left 1
  · (intro w hSw; (try dsimp only at hSw); go_split_ands; go_simp; first | done | with_reducible rfl)
  simp only [Act.put, List.setIfInBounds_toArray, List.set_cons_zero, List.set_cons_succ]
  refine Late.take (i := 9) (v := ?_) rfl (by kernel_rfl) (by kernel_rfl) (by kernel_rfl) (by kernel_rfl) (fun _ _ _ h => h) (Or.inl ⟨by rfl, ?_⟩) hS ?_
  rotate_left 1
  · (intro w hSw; (try dsimp only at hSw); go_split_ands; go_simp; first | done | with_reducible rfl)
  simp only [Act.put, List.setIfInBounds_toArray, List.set_cons_zero, List.set_cons_succ]
  refine Late.take (i := 10) (v := ?_) rfl (by kernel_rfl) (by kernel_rfl) (by kernel_rfl) (by kernel_rfl) (fun _ _ _ h => h) (Or.inl ⟨by rfl, ?_⟩) hS ?_
  rotate_left 1
  · (intro w hSw; (try dsimp only at hSw); go_split_ands; go_simp; first | done | with_reducible rfl)
  simp only [Act.put, List.setIfInBounds_toArray, List.set_cons_zero, List.set_cons_succ]
  refine Late.take (i := 11) (v := ?_) rfl (by kernel_rfl) (by kernel_rfl) (by kernel_rfl) (by kernel_rfl) (fun _ _ _ h => h) (Or.inl ⟨by rfl, ?_⟩) hS ?_
  rotate_left 1
  · (intro w hSw; (try dsimp only at hSw); go_split_ands; go_simp; first | done | with_reducible rfl)
  simp only [Act.put, List.setIfInBounds_toArray, List.set_cons_zero, List.set_cons_succ]
  refine Late.take (i := 12) (v := ?_) rfl (by kernel_rfl) (by kernel_rfl) (by kernel_rfl) (by kernel_rfl) (fun _ _ _ h => h) (Or.inl ⟨by rfl, ?_⟩) hS ?_
  rotate_left 1
  · (intro w hSw; (try dsimp only at hSw); go_split_ands; go_simp; first | done | with_reducible rfl)
  simp only [Act.put, List.setIfInBounds_toArray, List.set_cons_zero, List.set_cons_succ]
  refine Late.take (i := 13) (v := ?_) rfl (by kernel_rfl) (by kernel_rfl) (by kernel_rfl) (by kernel_rfl) (fun _ _ _ h => h) (Or.inl ⟨by rfl, ?_⟩) hS ?_
  rotate_left 1
  · (intro w hSw; (try dsimp only at hSw); go_split_ands; go_simp; first | done | with_reducible rfl)
  simp only [Act.put, List.setIfInBounds_toArray, List.set_cons_zero, List.set_cons_succ]
  refine Late.take (i := 14) (v := ?_) rfl (by kernel_rfl) (by kernel_rfl) (by kernel_rfl) (by kernel_rfl) (fun _ _ _ h => h) (Or.inl ⟨by rfl, ?_⟩) hS ?_
  rotate_left 1
  · (intro w hSw; (try dsimp only at hSw); go_split_ands; go_simp; first | done | with_reducible rfl)
  simp only [Act.put, List.setIfInBounds_toArray, List.set_cons_zero, List.set_cons_succ]
  refine Late.take (i := 15) (v := ?_) rfl (by kernel_rfl) (by kernel_rfl) (by kernel_rfl) (by kernel_rfl) (fun _ _ _ h => h) (Or.inl ⟨by rfl, ?_⟩) hS ?_
  rotate_left 1
  · (intro w hSw; (try dsimp only at hSw); go_split_ands; go_simp; first | done | with_reducible rfl)
  simp only [Act.put, List.setIfInBounds_toArray, List.set_cons_zero, List.set_cons_succ]
  have q1 : Below V.heap.size V (V.alloc (.cells #[] 38)).drew := (new_below V _).drew
  have z1 : (V.alloc (.cells #[] 38)).drew.heap.size = V.heap.size + 1 := World.size_alloc _ _
  have hlit : Hid ((V.alloc (.cells #[] 38)).drew.heap[V.heap.size]? = some (.cells #[] 38 (0, 0))) := heap_alloc_new V _
  have hS1 : (∀ q, (V.alloc (.cells #[] 38)).drew.cell? ⟨N, q, none⟩ = V.cell? ⟨N, q, none⟩) := fun q => q1.cell (p := ⟨N, q, none⟩) lX
  refine Late.one (i := 1) (by kernel_rfl) rfl (fun K hK => ?_)
  rw [if_pos (by kernel_rfl)]
  go_wp2_with fail
  refine hK.out _ _ (fun _ => hS1) ?_
  clear hK K hS
  generalize (V.alloc (.cells #[] 38)).drew = W1 at q1 z1 hlit hS1 ⊢
  have hown : W1.ownsRow 0 38 5 (.slice (some ⟨V.heap.size, 0, none⟩) 0 0) 0 [] := ⟨rfl, .inr ⟨V.heap.size, 0, #[], rfl, Nat.zero_le _, hlit.out, Nat.le_refl _, Nat.zero_le _, rfl, rfl⟩⟩
  refine Late.one (i := 8) (by kernel_rfl) rfl (fun K hK => ?_)
  refine step_rows 5 (by rfl) _ _ 30 (by rfl) 38 i0 (.agg #[.int .i64 0, .int .i64 0, .int .i64 0, .int .i64 0, .slice none 0 0]) 56 Tryz.underlying30 hi hz0 hz1 hz2 rfl (by decide) V.heap.size 0 0 [] (by rfl) hown ⟨g, 0, none⟩ m cw va1 (by rfl) HLA.out (fun t u hu => (q1.cell (p := (⟨g, 0, none⟩ : Addr).add t) (by rw [Addr.add_lit]; show g < _; omega)).trans (hca.out t u hu)) h1a.out (by unfold maxLen; omega) (by omega) ?_
  intro g1 c1 w5 ow5 hg1 t5
  rw [Nat.zero_add] at ow5 ⊢
  have q5 := q1.trans (t5.below (N := V.heap.size) (by omega) (fun y hy => by simp at hy; omega))
  have z5 := t5.size
  have hS5 : (∀ q, w5.cell? ⟨N, q, none⟩ = V.cell? ⟨N, q, none⟩) := fun q => q5.cell (p := ⟨N, q, none⟩) lX
  refine hK.out _ _ (fun _ => hS5) ?_
  clear hK K hS1 hown
  refine Late.one (i := 16) (by kernel_rfl) rfl (fun K hK => ?_)
  refine step_rows 5 (by rfl) _ _ 30 (by rfl) 38 i0 (.agg #[.int .i64 0, .int .i64 0, .int .i64 0, .int .i64 0, .slice none 0 0]) 56 Tryz.underlying30 hi hz0 hz1 hz2 rfl (by decide) g1 c1 m _ (by rfl) ow5 Ad (ws.length - (m + 1)) (cw - (m + 1)) vb1 (by rfl) HLB.out (fun t u hu => (q5.cell (p := Ad.add t) (by rw [show (Ad.add t).block = g by rw [← hAb.out]; unfold Addr.add; split <;> rfl]; omega)).trans (hcb.out t u hu)) h1b.out (by unfold maxLen; omega) (by omega) ?_
  intro g2 c2 w6 ow6 hg2 t6
  rw [HL3.out] at ow6 ⊢
  have q6 := q5.trans (t6.below (N := V.heap.size) (by omega) (fun y hy => by simp at hy; omega))
  have z6 := t6.size
  have hS6 : (∀ q, w6.cell? ⟨N, q, none⟩ = V.cell? ⟨N, q, none⟩) := fun q => q6.cell (p := ⟨N, q, none⟩) lX
  refine hK.out _ _ (fun _ => hS6) ?_
  clear hK K hS5
  have hg2V : V.heap.size ≤ g2 := by omega
  rw [List.nil_append, HVA.out, HVB.out] at ow6
  obtain ⟨cs, fc, fr, mx, hcs, mr, hfc, hfr⟩ := row_erase P1.m2 hk q6.size (fun y hy _ => q6.block y (by have := (P.own2 hy).1; omega)) (fun hy => by have := (P.own2 hy).1; omega) HGV.out ow6
  have mc := cmd_cells mx (i := m * 5) (w := V) hcs ((b0.cell (p := ⟨g, m * 5 + 4, none⟩) hgl).trans hx5)
  have X := X.below q6 lX
  have PN := P1.turned (Turned.ofBelow q6 []) (by simp)
  have hfr2 : ∀ y ∈ fr, lo ≤ y ∧ y ∉ f0 ∧ y ∉ f1 ∧ y ∉ f3 ∧ y ∉ f4 ∧ y ∉ f5 := fun y hy => by
    rcases hfr y hy with l | l
    · exact ⟨(P.own2 l).1.1, (P.own2 l).2⟩
    · have r := P.beyond (b := y) (.inl (by omega))
      exact ⟨by omega, r.1, r.2.1, r.2.2.2.1, r.2.2.2.2.1, r.2.2.2.2.2⟩
  have P2 := PN.set2 (Turned.refl [] w6) (by simp) mr hfr2 (by omega)
  have C := C.below q6 lC
  have TT := T0.trans (Turned.ofBelow q6 (N :: (f0 ++ (f1 ++ (f2 ++ (f3 ++ (f4 ++ f5)))))))
  have hfN : N ∉ fr := fun hy => by
    rcases hfr N hy with l | l
    · exact n2 l
    · omega
  have hcF : ∀ y ∈ fc, (lo ≤ y ∧ y ≠ N) ∧ y ∉ f0 ∧ y ∉ f1 ∧ y ∉ fr ∧ y ∉ f3 ∧ y ∉ f4 ∧ y ∉ f5 := fun y hy => by
    obtain ⟨h1, h2⟩ := hfc y hy
    obtain ⟨k1, k2⟩ := P.own2 h1
    exact ⟨⟨k1.1, fun e => n2 (e ▸ h1)⟩, k2.1, k2.2.1, h2, k2.2.2.1, k2.2.2.2.1, k2.2.2.2.2⟩
  have zT := q6.size
  have c13 := X.cell 13
  have fz := X.frozen 13
  have lC := C.lt
  have HP := hidden P2
  have HTT := hidden TT
  have MC := hidden mc
  have HCF := hidden hcF
  have HFR : Hid (∀ y, y < w.heap.size → y ∈ fr → y ∈ f2) := fun y hy h => by
    rcases hfr y h with l | l
    · exact l
    · omega
  have hC3 : Hid (w.heap.size ∉ f3) := fun hy => by have := (P.own3 hy).1; omega
  have E : BoxAt w6 _ N 35 [.int .i64 x.id, .int .i64 x.n, .int .i64 x.s, vm, .int .i64 x.lost, .int .i64 x.built, .int .i64 x.seq, .int .i64 x.tail, .int .i64 x.gen, vd, .int .i64 x.fuse, .bool x.down, .bool x.broken, .slice (some ⟨g2, 0, none⟩) (ws.length - 1) c2, .slice aj js.length cj, va, vu] := X.at.set 13 (.slice (some ⟨g2, 0, none⟩) (ws.length - 1) c2)
  clear mx hcs mr hfc hfr hfr2 T0 mc P P1 P2 PN TT hcF hr0 hx5 hc4 k13 X ow5 ow6 t5 t6 q1 q5 hca hcb h1a h1b
  refine Late.one (i := 17) (by kernel_rfl) rfl (fun K hK => ?_)
  rw [if_pos (by kernel_rfl)]
  go_wp2_with fail
  refine hK.out _ _ (fun _ => hS6) ?_
  clear hK K
  refine Late.one (i := 18) (by kernel_rfl) rfl (fun K hK => ?_)
  rw [if_pos (by kernel_rfl)]
  go_wp2_with fail
  refine hK.out _ _ (fun _ => hS6) ?_
  clear hK K
  refine Late.one (i := 19) (by kernel_rfl) rfl (fun K hK => ?_)
  clear hS6
  rw [if_pos (by kernel_rfl)]
  go_wp2_with fail
  refine hK.out _ _ (fun h => absurd rfl h) ?_
  clear hK K
  refine Late.done (by kernel_rfl) ?_ _
  clear c13 fz q6 i0 hi hz0 hz1 hz2 tk1 tk2 tk3 tk4 hAd
  refine seal_then E ?_
  clear E
  intro V2 E
  have TE : Turned (N :: (f0 ++ (f1 ++ (f2 ++ (f3 ++ (f4 ++ f5)))))) w6 V2 := But.asTurned E.but List.mem_cons_self
  have hNf : ∀ y, y ∈ f0 ∨ y ∈ f1 ∨ y ∈ fr ∨ y ∈ f3 ∨ y ∈ f4 ∨ y ∈ f5 → y < N ∨ N + 1 ≤ y := fun y hm => by
    have : y ≠ N := fun e => by
      subst e
      rcases hm with l | l | l | l | l | l
      · exact n0 l
      · exact n1 l
      · exact hfN l
      · exact n3 l
      · exact n4 l
      · exact n5 l
    omega
  have PV : EngP V2 lo V2.heap.size _ _ _ _ _ _ _ f0 f1 fr f3 f4 f5 := (HP.out.but E.but hNf).widen (by have := E.size; omega)
  have TV := HTT.out.trans TE
  have X := E.box
  have C := E.other C (by omega)
  have mc := MC.out.but E.but (fun y hy => by have := (HCF.out y hy).1.2; omega)
  have lX := X.lt
  have lC := C.lt
  have zV2 := TV.size
  have zE := Nat.le_of_eq E.size
  have zE2 := Nat.le_of_eq E.size.symm
  clear E TE hNf HP HTT MC lN
  have HP := hidden PV
  have HTV := hidden TV
  have MC := hidden mc
  clear PV TV mc
  go_wp2_with fail
  obtain ⟨c0, c1, c2, c3, c4⟩ := C.cells5
  have x1 := X.cell 1
  have x2 := X.cell 2
  refine wp_region_held_drew (S := fun w' => (∀ q, w'.cell? ⟨N, q, none⟩ = V2.cell? ⟨N, q, none⟩) ∧ (∀ q, w'.cell? ⟨w.heap.size, q, none⟩ = V2.cell? ⟨w.heap.size, q, none⟩)) (by kernel_rfl) ⟨fun _ => rfl, fun _ => rfl⟩ (fun hHeld => ?_)
  refine held_t 0 hHeld ?_
  refine held_t 1 hHeld ?_
  refine held_t 2 hHeld ?_
  refine held_t 3 hHeld ?_
  refine held_t 4 hHeld ?_
  refine held_t 5 hHeld ?_
  refine held_one (i := 6) (by kernel_rfl) rfl (by kernel_rfl) (fun K hK => ?_)
  go_simp
  refine (specCmdCode_any _ x.n x.s o d b n _ _ _ zs rfl (ints_rd MC.out.rd.drew).1 (by omega)).mono ?_
  rintro e3 w3 ⟨rfl, b3⟩
  have q3 : Below V2.heap.size V2 w3 := (Below.refl V2.heap.size V2).drew.trans b3
  go_wp2_with fail
  clear hHeld b3
  refine hK.out _ _ ⟨fun q => q3.cell (p := ⟨N, q, none⟩) lX, fun q => q3.cell (p := ⟨w.heap.size, q, none⟩) lC⟩ (fun hHeld => ?_)
  clear hK K
  refine held_t 7 hHeld ?_
  refine wpAnyH_done (by kernel_rfl) ?_ _
  clear hHeld c0 c1 c2 c3 c4 x1 x2
  have X := X.below q3 lX
  have C := C.below q3 lC
  have PV := (HP.out.turned (Turned.ofBelow q3 []) (by simp)).widen (q3.size)
  have TV := HTV.out.trans (Turned.ofBelow q3 (N :: (f0 ++ (f1 ++ (f2 ++ (f3 ++ (f4 ++ f5)))))))
  have mc := MC.out.below q3
  have lX := X.lt
  have lC := C.lt
  have z3 := q3.size
  have HP := hidden PV
  have HTV := hidden TV
  have MC := hidden mc
  clear PV TV mc q3
  have hcd : codeD x.n x.s (o, d, b, n, zs) = codeC x.n x.s o d b n zs := rfl
  obtain ⟨code, hcode⟩ : ∃ code, codeC x.n x.s o d b n zs = code := ⟨_, rfl⟩
  rw [hcode] at hcd ⊢
  have HCD := hidden hcd
  clear hcd hcode
  by_cases hc : code = 0
  rotate_left
  · have hne : (code != 0) = true := by simpa using hc
    have HB : Hid (begC (⟨x, ms, ds, ws, js, an, ts⟩ : EngD) m (o, d, b, n, zs) = ansE (takeE (⟨x, ms, ds, ws, js, an, ts⟩ : EngD) m) (o, d, b, n, zs) (d, code, [])) := by
      unfold Hid begC
      rw [HCD.out, if_neg hc]
    have hbeq : ¬ code = 0 := hc
    obtain ⟨c0, c1, c2, c3, c4⟩ := C.cells5
    go_wp2_with fail
    refine (l15Answer_any _ N lo (takeE (⟨x, ms, ds, ws, js, an, ts⟩ : EngD) m) (f0 ++ (f1 ++ (fr ++ (f3 ++ (f4 ++ f5))))) o d b n av cv zs d code none 0 [] fc [] ⟨_, _, _, _, _, _, f0, f1, fr, f3, f4, f5, rfl, X, HP.out, ?_⟩ (by omega) MC.out (fun y hy => ?_) (nil_mine _) (by simp) (by simp) (by simp) (by show an.length ≤ _; omega) (by show ts.length ≤ _; omega)).mono ?_
    · intro h
      rcases mem_six.1 h with l | l | l | l | l | l
      · exact n0 l
      · exact n1 l
      · exact hfN l
      · exact n3 l
      · exact n4 l
      · exact n5 l
    · have := HCF.out y hy
      exact ⟨this.1.1, this.1.2, not_six.2 this.2⟩
    rintro e4 w4 ⟨rfl, hF, T4⟩
    have TF : Turned (N :: (f0 ++ (f1 ++ (f2 ++ (f3 ++ (f4 ++ f5)))))) w w4 := ⟨T4.os.trans HTV.out.os, T4.tape.trans HTV.out.tape, T4.output.trans HTV.out.output, Nat.le_trans HTV.out.size T4.size, fun y hy hn => (T4.block y (Nat.lt_of_lt_of_le hy HTV.out.size) (fun hm => by
      rcases List.mem_cons.1 hm with l | l
      · exact hn (l ▸ List.mem_cons_self)
      · refine hn (List.mem_cons_of_mem _ (mem_six.2 ?_))
        rcases mem_six.1 l with l | l | l | l | l | l
        · exact .inl l
        · exact .inr (.inl l)
        · exact .inr (.inr (.inl (HFR.out y hy l)))
        · exact .inr (.inr (.inr (.inl l)))
        · exact .inr (.inr (.inr (.inr (.inl l))))
        · exact .inr (.inr (.inr (.inr (.inr l)))))).trans (HTV.out.block y hy hn)⟩
    have HF := hidden hF
    have HTF := hidden TF
    clear hF TF T4
    go_wp2
    refine bodyPost_ret (v := .tuple #[]) (by simp [results, Tryz.results65, go_sem]) rfl ?_
    exact ⟨rfl, by rw [HB.out]; exact HF.out, HTF.out⟩
  subst hc
  have HB : Hid (begC (⟨x, ms, ds, ws, js, an, ts⟩ : EngD) m (o, d, b, n, zs) = jobE (takeE (⟨x, ms, ds, ws, js, an, ts⟩ : EngD) m) (o, d, b, n, zs)) := by
    unfold Hid begC
    rw [HCD.out, if_pos rfl]
  obtain ⟨c0, c1, c2, c3, c4⟩ := C.cells5
  have x14 := X.cell 14
  obtain ⟨i3, hi3, hz30, hz31, hz32⟩ := info_parts Tryz.infoJob15
  go_wp2_with fail
  refine Late.start (S := fun w' => (∀ q, w'.cell? ⟨N, q, none⟩ = w3.cell? ⟨N, q, none⟩) ∧ (∀ q, w'.cell? ⟨w.heap.size, q, none⟩ = w3.cell? ⟨w.heap.size, q, none⟩)) (k := 11) (by kernel_rfl) ?_
  have hS : (∀ q, w3.drew.cell? ⟨N, q, none⟩ = w3.cell? ⟨N, q, none⟩) ∧ (∀ q, w3.drew.cell? ⟨w.heap.size, q, none⟩ = w3.cell? ⟨w.heap.size, q, none⟩) := ⟨fun _ => rfl, fun _ => rfl⟩
  refine Late.take (i := 0) (v := ?_) rfl (by kernel_rfl) (by kernel_rfl) (by kernel_rfl) (by kernel_rfl) (fun _ _ _ h => h) (Or.inl ⟨by rfl, ?_⟩) hS ?_
  rotate_left 1
  · (intro w hSw; (try dsimp only at hSw); go_split_ands; go_simp; first | done | with_reducible rfl)
  simp only [Act.put, List.setIfInBounds_toArray, List.set_cons_zero, List.set_cons_succ]
  refine Late.take (i := 1) (v := ?_) rfl (by kernel_rfl) (by kernel_rfl) (by kernel_rfl) (by kernel_rfl) (fun _ _ _ h => h) (Or.inl ⟨by rfl, ?_⟩) hS ?_
  rotate_left 1
  · (intro w hSw; (try dsimp only at hSw); go_split_ands; go_simp; first | done | with_reducible rfl)
  simp only [Act.put, List.setIfInBounds_toArray, List.set_cons_zero, List.set_cons_succ]
  refine Late.take (i := 2) (v := ?_) rfl (by kernel_rfl) (by kernel_rfl) (by kernel_rfl) (by kernel_rfl) (fun _ _ _ h => h) (Or.inl ⟨by rfl, ?_⟩) hS ?_
  rotate_left 1
  · (intro w hSw; (try dsimp only at hSw); go_split_ands; go_simp; first | done | with_reducible rfl)
  simp only [Act.put, List.setIfInBounds_toArray, List.set_cons_zero, List.set_cons_succ]
  refine Late.take (i := 3) (v := ?_) rfl (by kernel_rfl) (by kernel_rfl) (by kernel_rfl) (by kernel_rfl) (fun _ _ _ h => h) (Or.inl ⟨by rfl, ?_⟩) hS ?_
  rotate_left 1
  · (intro w hSw; (try dsimp only at hSw); go_split_ands; go_simp; first | done | with_reducible rfl)
  simp only [Act.put, List.setIfInBounds_toArray, List.set_cons_zero, List.set_cons_succ]
  refine Late.take (i := 4) (v := ?_) rfl (by kernel_rfl) (by kernel_rfl) (by kernel_rfl) (by kernel_rfl) (fun _ _ _ h => h) (Or.inl ⟨by rfl, ?_⟩) hS ?_
  rotate_left 1
  · (intro w hSw; (try dsimp only at hSw); go_split_ands; go_simp; first | done | with_reducible rfl)
  simp only [Act.put, List.setIfInBounds_toArray, List.set_cons_zero, List.set_cons_succ]
  refine Late.take (i := 5) (v := ?_) rfl (by kernel_rfl) (by kernel_rfl) (by kernel_rfl) (by kernel_rfl) (fun _ _ _ h => h) (Or.inl ⟨by rfl, ?_⟩) hS ?_
  rotate_left 1
  · (intro w hSw; (try dsimp only at hSw); go_split_ands; go_simp; first | done | with_reducible rfl)
  simp only [Act.put, List.setIfInBounds_toArray, List.set_cons_zero, List.set_cons_succ]
  clear c0 c1 c2 c3 c4 x14
  refine Late.one (i := 6) (by kernel_rfl) rfl (fun K hK => ?_)
  go_simp
  refine hK.out _ _ (fun _ => hS) ?_
  clear hK K
  have nb := (new_below w3 (.cells #[.int .i64 o, .int .i64 d, .int .i64 b, .int .i64 n, .slice av zs.length cv, .int .i64 0, .slice none 0 0, .int .i64 0] 92)).drew
  have n9 : (w3.alloc (.cells #[.int .i64 o, .int .i64 d, .int .i64 b, .int .i64 n, .slice av zs.length cv, .int .i64 0, .slice none 0 0, .int .i64 0] 92)).drew.heap.size = w3.heap.size + 1 := World.size_alloc _ _
  have hSN : (∀ q, (w3.alloc (.cells #[.int .i64 o, .int .i64 d, .int .i64 b, .int .i64 n, .slice av zs.length cv, .int .i64 0, .slice none 0 0, .int .i64 0] 92)).drew.cell? ⟨N, q, none⟩ = w3.cell? ⟨N, q, none⟩) ∧ (∀ q, (w3.alloc (.cells #[.int .i64 o, .int .i64 d, .int .i64 b, .int .i64 n, .slice av zs.length cv, .int .i64 0, .slice none 0 0, .int .i64 0] 92)).drew.cell? ⟨w.heap.size, q, none⟩ = w3.cell? ⟨w.heap.size, q, none⟩) := ⟨fun q => nb.cell (p := ⟨N, q, none⟩) lX, fun q => nb.cell (p := ⟨w.heap.size, q, none⟩) lC⟩
  refine Late.one (i := 7) (by kernel_rfl) rfl (fun K hK => ?_)
  rw [if_pos (by kernel_rfl)]
  go_wp2_with fail
  refine hK.out _ _ (fun _ => hSN) ?_
  clear hK K hS
  have mE : tJob.Mine w3 [.int .i64 o, .int .i64 d, .int .i64 b, .int .i64 n, .slice av zs.length cv, .int .i64 0, .slice none 0 0, .int .i64 0] (o, d, b, n, zs, 0, [], 0) (fc ++ ([] ++ [])) := int_mine_of (x := o) (int_mine_of (x := d) (int_mine_of (x := b) (int_mine_of (x := n) (ints_mine_of MC.out (int_mine_of (x := 0) (ints_mine_of (nil_mine _) int_mine1_of (by simp))) (by simp)))))
  rw [List.append_nil, List.append_nil] at mE
  replace mE := mE.below nb
  have PN := HP.out.turned (Turned.ofBelow nb []) (by simp)
  have XN := X.below nb lX
  have hdis : ∀ y ∈ f3, y ∉ fc := fun y hy hy' => (HCF.out y hy').2.2.2.2.1 hy
  refine Late.one (i := 8) (by kernel_rfl) rfl (fun K hK => ?_)
  refine step_appT tJob (by rfl) _ _ 31 (by rfl) 92 i3 (.agg #[.int .i64 0, .int .i64 0, .int .i64 0, .int .i64 0, .slice none 0 0, .int .i64 0, .slice none 0 0, .int .i64 0]) 96 Tryz.underlying31 hi3 hz30 hz31 hz32 rfl (by decide) (.slice aj js.length cj) js f3 (by rfl) PN.m3 ⟨w3.heap.size, 0, none⟩ 1 [.int .i64 o, .int .i64 d, .int .i64 b, .int .i64 n, .slice av zs.length cv, .int .i64 0, .slice none 0 0, .int .i64 0] (o, d, b, n, zs, 0, [], 0) fc (by rfl) mE hdis (news_new w3 #[.int .i64 o, .int .i64 d, .int .i64 b, .int .i64 n, .slice av zs.length cv, .int .i64 0, .slice none 0 0, .int .i64 0] _) (by intro u hu; simp at hu; rcases hu with rfl | rfl | rfl | rfl | rfl | rfl | rfl | rfl <;> rfl) (by unfold maxLen; omega) (by omega) ?_
  intro g3 cp3 wZ frZ mZ sZ tZ
  have zZ := tZ.size
  have hSZ : (∀ q, wZ.cell? ⟨N, q, none⟩ = w3.cell? ⟨N, q, none⟩) ∧ (∀ q, wZ.cell? ⟨w.heap.size, q, none⟩ = w3.cell? ⟨w.heap.size, q, none⟩) := ⟨fun q => (World.cell?_of_block (tZ.block N (by omega) n3)).trans (hSN.1 q), fun q => (World.cell?_of_block (tZ.block (w.heap.size) (by omega) (fun hy => hC3.out hy))).trans (hSN.2 q)⟩
  refine hK.out _ _ (fun _ => hSZ) ?_
  clear hK K hSN
  have XZ := XN.turned tZ n3
  have hfr3 : ∀ y ∈ frZ, (lo ≤ y ∧ y ≠ N) ∧ y ∉ f0 ∧ y ∉ f1 ∧ y ∉ fr ∧ y ∉ f4 ∧ y ∉ f5 := fun y hy => by
    rcases sZ y hy with l | l | l
    · have r := PN.own3 l
      exact ⟨⟨r.1.1, fun e => n3 (e ▸ l)⟩, r.2⟩
    · have r := HCF.out y l
      exact ⟨r.1, r.2.1, r.2.2.1, r.2.2.2.1, r.2.2.2.2.2.1, r.2.2.2.2.2.2⟩
    · have r := HP.out.beyond (b := y) (.inl (by omega))
      exact ⟨⟨by omega, by omega⟩, r.1, r.2.1, r.2.2.1, r.2.2.2.2.1, r.2.2.2.2.2⟩
  have PZ := PN.set3 tZ (fun y hy => (PN.own3 hy).2) mZ (fun y hy => ⟨(hfr3 y hy).1.1, (hfr3 y hy).2⟩) (by omega)
  have E : BoxAt wZ _ N 35 [.int .i64 x.id, .int .i64 x.n, .int .i64 x.s, vm, .int .i64 x.lost, .int .i64 x.built, .int .i64 x.seq, .int .i64 x.tail, .int .i64 x.gen, vd, .int .i64 x.fuse, .bool x.down, .bool x.broken, .slice (some ⟨g2, 0, none⟩) (ws.length - 1) c2, .slice (some ⟨g3, 0, none⟩) (js.length + 1) cp3, va, vu] := XZ.at.set 14 (.slice (some ⟨g3, 0, none⟩) (js.length + 1) cp3)
  have c14 := XZ.cell 14
  have fz := XZ.frozen 14
  have TZ := hidden ((HTV.out.trans (Turned.ofBelow nb (N :: (f0 ++ (f1 ++ (f2 ++ (f3 ++ (f4 ++ f5)))))))).trans (tZ.mono (fun y hy => List.mem_cons_of_mem _ (mem_six.2 (.inr (.inr (.inr (.inl hy))))))))
  have hPZ := hidden PZ
  have hFR := hidden hfr3
  clear PZ hfr3 mZ sZ tZ mE hdis XN PN nb n9
  refine Late.one (i := 9) (by kernel_rfl) rfl (fun K hK => ?_)
  rw [if_pos (by kernel_rfl)]
  go_wp2_with fail
  refine hK.out _ _ (fun _ => hSZ) ?_
  clear hK K
  refine Late.one (i := 10) (by kernel_rfl) rfl (fun K hK => ?_)
  rw [if_pos (by kernel_rfl)]
  go_wp2_with fail
  refine hK.out _ _ (fun _ => hSZ) ?_
  clear hK K
  refine Late.one (i := 11) (by kernel_rfl) rfl (fun K hK => ?_)
  clear hSZ
  rw [if_pos (by kernel_rfl)]
  go_wp2_with fail
  refine hK.out _ _ (fun h => absurd rfl h) ?_
  clear hK K
  refine Late.done (by kernel_rfl) ?_ _
  clear c14 fz XZ
  refine seal_then E ?_
  clear E
  intro V3 E
  have TE : Turned (N :: (f0 ++ (f1 ++ (f2 ++ (f3 ++ (f4 ++ f5)))))) wZ V3 := But.asTurned E.but List.mem_cons_self
  have nz : N ∉ frZ := fun hy => (hFR.out N hy).1.2 rfl
  have hNf : ∀ y, y ∈ f0 ∨ y ∈ f1 ∨ y ∈ fr ∨ y ∈ frZ ∨ y ∈ f4 ∨ y ∈ f5 → y < N ∨ N + 1 ≤ y := fun y hm => by
    have : y ≠ N := fun e => by
      subst e
      rcases hm with l | l | l | l | l | l
      · exact n0 l
      · exact n1 l
      · exact hfN l
      · exact nz l
      · exact n4 l
      · exact n5 l
    omega
  have PV : EngP V3 lo V3.heap.size _ _ _ _ _ _ _ f0 f1 fr frZ f4 f5 := (hPZ.out.but E.but hNf).widen (by have := E.size; omega)
  have HV := hidden PV
  have HX := hidden E.box
  have HTF := hidden (TZ.out.trans TE)
  have hN' : N ∉ f0 ++ (f1 ++ (fr ++ (frZ ++ (f4 ++ f5)))) := fun h => by have := hNf N (mem_six.1 h); omega
  have HN := hidden hN'
  clear PV E TE hNf hN' C X
  go_wp2
  refine bodyPost_end (v := .tuple #[]) (results_none rfl _ _ _) rfl ?_
  exact ⟨rfl, by rw [HB.out]; exact ⟨_, _, _, _, _, _, _, f0, f1, fr, frZ, f4, f5, rfl, HX.out, HV.out, HN.out⟩, HTF.out⟩

end Go.Proofs.YtbkkjfgjlapadaaGreat

/-
  The walks of the specification's looks whether an array is right, and whether a disk of it lives at a stripe. Condition: it weighs at most 2097152.
-/
namespace Go.Proofs.YtbkkjfgjlapadaaGreat
open Go.RowKit

def liveB (x : ArrN) (ms : List MemD) (m s : Int) : Bool := inB m 0 ((ms.length : Int) - 1) && (!(ms.getD m.toNat ([], [], false, [])).2.2.1 && (!decide (m = x.lost) || decide (s < x.built)))

set_option maxHeartbeats 3200000 in
theorem specArrOk_any (w : World) (E F G : TypeId) (x : ArrN) (am ad : Option Addr) (nm cm nd cd : Nat) (ms : List MemD) (ds : List (Int × List Int)) (h0 : (tMemS E F).Rd w [.slice am nm cm] ms) (h1 : (tWrS G).Rd w [.slice ad nd cd] ds) (hw : wtArr ms ds ≤ 2097152) :
    Calls Tryz.prog 78 #[.agg #[.int .i64 x.id, .int .i64 x.n, .int .i64 x.s, .slice am nm cm, .int .i64 x.lost, .int .i64 x.built, .int .i64 x.seq, .int .i64 x.tail, .int .i64 x.gen, .slice ad nd cd, .int .i64 x.fuse, .bool x.down, .bool x.broken]] w fun e w' => e = .returned (.bool (arrB x ms ds)) ∧ Below w.heap.size w w' := by
  have hwm : wtMemS ms ≤ 2097152 := by unfold wtArr at hw; omega
  have hwd : wtWrS ds ≤ 2097152 := by unfold wtArr at hw; omega
  have hA := new_below w (.cells #[.int .i64 x.id, .int .i64 x.n, .int .i64 x.s, .slice am nm cm, .int .i64 x.lost, .int .i64 x.built, .int .i64 x.seq, .int .i64 x.tail, .int .i64 x.gen, .slice ad nd cd, .int .i64 x.fuse, .bool x.down, .bool x.broken] 29)
  have X := Box.new w 29 #[.int .i64 x.id, .int .i64 x.n, .int .i64 x.s, .slice am nm cm, .int .i64 x.lost, .int .i64 x.built, .int .i64 x.seq, .int .i64 x.tail, .int .i64 x.gen, .slice ad nd cd, .int .i64 x.fuse, .bool x.down, .bool x.broken]
  obtain ⟨k0, k1, k2, k3, k4, k5, k6, k7, k8, k9, k10, k11, k12⟩ := X.cells13
  have zA := X.lt
  have r0 := h0.below hA
  have r1 := h1.below hA
  go_enter Tryz.func78, Tryz.ntmps78
  go_wp2_with fail
  generalize w.alloc (.cells #[.int .i64 x.id, .int .i64 x.n, .int .i64 x.s, .slice am nm cm, .int .i64 x.lost, .int .i64 x.built, .int .i64 x.seq, .int .i64 x.tail, .int .i64 x.gen, .slice ad nd cd, .int .i64 x.fuse, .bool x.down, .bool x.broken] 29) = W at hA X zA r0 r1 k0 k1 k2 k3 k4 k5 k6 k7 k8 k9 k10 k11 k12 ⊢
  refine (specGeoOk_any _ _ _).mono ?_
  rintro e w1 ⟨rfl, b1⟩
  have X1 := X.below b1 X.lt
  have B1 := Below.andThen hA b1
  have q1 := r0.below b1
  have t1 := r1.below b1
  clear k0 k1 k2 k3 k4 k5 k6 k7 k8 k9 k10 k11 k12 b1 hA X r0 r1
  obtain ⟨k0, k1, k2, k3, k4, k5, k6, k7, k8, k9, k10, k11, k12⟩ := X1.cells13
  cases hg : geoB x.n x.s
  · skip
    have HF : Hid (arrB x ms ds = false) := by unfold Hid arrB; simp [hg]
    go_wp2
    go_ret
    exact ⟨ret_bool HF.out.symm, B1⟩
  · obtain ⟨g1, g2, g3, g4⟩ := geoB_iff.1 hg
    have hws : IntKind.i64.wrap (x.n - 1) = x.n - 1 := IntWalk.i64_in _ (by omega)
    go_wp2_with fail
    refine (l1In_any _ _ _ _).mono ?_
    rintro e wq ⟨rfl, hq⟩
    obtain rfl := hq.symm
    cases hid : inB x.id 1 60000
    · skip
      have HF : Hid (arrB x ms ds = false) := by unfold Hid arrB; simp [hid]
      go_wp2
      go_ret
      exact ⟨ret_bool HF.out.symm, B1⟩
    · skip
      go_wp2_with fail
      refine (l6Mems_any _ E F x _ _ _ _ _ _ ms q1 hwm hg).mono ?_
      rintro e w2 ⟨rfl, b2⟩
      have X2 := X1.below b2 X1.lt
      have B2 := Below.andThen B1 b2
      have q2 := q1.below b2
      have t2 := t1.below b2
      clear k0 k1 k2 k3 k4 k5 k6 k7 k8 k9 k10 k11 k12 b2 B1 X1 q1 t1
      obtain ⟨k0, k1, k2, k3, k4, k5, k6, k7, k8, k9, k10, k11, k12⟩ := X2.cells13
      cases hms : memsB x ms
      · skip
        have HF : Hid (arrB x ms ds = false) := by unfold Hid arrB; simp [hms]
        go_wp2
        go_ret
        exact ⟨ret_bool HF.out.symm, B2⟩
      · skip
        go_wp2_with fail
        refine (l6Dirty_any _ G x _ _ _ _ _ _ ds t2 hwd hg).mono ?_
        rintro e w3 ⟨rfl, b3⟩
        have X3 := X2.below b3 X2.lt
        have B3 := Below.andThen B2 b3
        have q3 := q2.below b3
        have t3 := t2.below b3
        clear k0 k1 k2 k3 k4 k5 k6 k7 k8 k9 k10 k11 k12 b3 B2 X2 q2 t2
        obtain ⟨k0, k1, k2, k3, k4, k5, k6, k7, k8, k9, k10, k11, k12⟩ := X3.cells13
        cases hds : entsB x ds
        · skip
          have HF : Hid (arrB x ms ds = false) := by unfold Hid arrB; simp [hds]
          go_wp2
          go_ret
          exact ⟨ret_bool HF.out.symm, B3⟩
        · skip
          go_wp2_with fail
          refine (l1In_any _ _ _ _).mono ?_
          rintro e wq ⟨rfl, hq⟩
          obtain rfl := hq.symm
          cases hlo : inB x.lost (-1) (x.n - 1)
          · skip
            have HF : Hid (arrB x ms ds = false) := by unfold Hid arrB; simp [lostB6, hlo]
            go_wp2
            go_ret
            exact ⟨ret_bool HF.out.symm, B3⟩
          · skip
            go_wp2_with fail
            refine (l1In_any _ _ _ _).mono ?_
            rintro e wq ⟨rfl, hq⟩
            obtain rfl := hq.symm
            cases hbu : inB x.built 0 x.s
            · skip
              have HF : Hid (arrB x ms ds = false) := by unfold Hid arrB; simp [lostB6, hbu]
              go_wp2
              go_ret
              exact ⟨ret_bool HF.out.symm, B3⟩
            · skip
              have hlb : (x.lost = -1 ∧ ¬ x.built = 0) ∨ (x.lost = -1 ∧ x.built = 0) ∨ ¬ x.lost = -1 := by omega
              have HLB : Hid (lostB6 x = (!decide (x.lost = -1) || decide (x.built = 0))) := by unfold Hid lostB6; rw [hlo, hbu]; simp
              rcases hlb with ⟨l1, l2⟩ | ⟨l1, l2⟩ | l1
              · have e1 : (x.lost == -1) = true := by simpa using l1
                have e2 : (x.built != 0) = true := by simpa using l2
                have e3 : (x.built == 0) = false := by simpa using l2
                have hL : lostB6 x = false := by rw [HLB.out]; simp [l1, l2]
                rw [l1] at k4
                have HF : Hid (arrB x ms ds = false) := by unfold Hid arrB; simp [hL]
                clear hL l1 l2
                go_wp2
                go_ret
                exact ⟨ret_bool HF.out.symm, B3⟩
              · have e1 : (x.lost == -1) = true := by simpa using l1
                have e2 : (x.built != 0) = false := by simpa using l2
                have e3 : (x.built == 0) = true := by simpa using l2
                have HLT : Hid (lostB6 x = true) := by unfold Hid; rw [HLB.out]; simp [l2]
                rw [l1] at k4
                rw [l2] at k5
                clear l1 l2
                have HT : Hid (arrB x ms ds = seqB6 x) := by unfold Hid arrB; rw [hg, hid, hms, hds, HLT.out]; rfl
                go_wp2_with fail
                refine (l1In_any _ _ _ _).mono ?_
                rintro e wq ⟨rfl, hq⟩
                obtain rfl := hq.symm
                cases ht : inB x.tail 0 60000
                · have HF : Hid (arrB x ms ds = false) := by unfold Hid; rw [HT.out]; unfold seqB6; simp [ht]
                  go_wp2
                  go_ret
                  exact ⟨ret_bool HF.out.symm, B3⟩
                · skip
                  have ht2 : 0 ≤ x.tail ∧ x.tail ≤ 60000 := by unfold inB at ht; simpa using ht
                  have hw4 : IntKind.i64.wrap (x.tail + 4) = x.tail + 4 := IntWalk.i64_in _ (by omega)
                  go_wp2_with fail
                  refine (l1In_any _ _ _ _).mono ?_
                  rintro e wq ⟨rfl, hq⟩
                  obtain rfl := hq.symm
                  cases hs : inB x.seq x.tail 60000
                  · have HF : Hid (arrB x ms ds = false) := by unfold Hid; rw [HT.out]; unfold seqB6; simp [hs]
                    go_wp2
                    go_ret
                    exact ⟨ret_bool HF.out.symm, B3⟩
                  · skip
                    by_cases hle : x.seq ≤ x.tail + 4
                    · skip
                      go_wp2_with fail
                      refine (l1In_any _ _ _ _).mono ?_
                      rintro e wq ⟨rfl, hq⟩
                      obtain rfl := hq.symm
                      cases hge : inB x.gen 0 60000
                      · have HF : Hid (arrB x ms ds = false) := by unfold Hid; rw [HT.out]; unfold seqB6; simp [hge]
                        go_wp2
                        go_ret
                        exact ⟨ret_bool HF.out.symm, B3⟩
                      · skip
                        have HF : Hid (arrB x ms ds = inB x.fuse (-1) 1000) := by unfold Hid; rw [HT.out]; unfold seqB6; simp [ht, hs, hle, hge]
                        go_wp2_with fail
                        refine (l1In_any _ _ _ _).mono ?_
                        rintro e wq ⟨rfl, hq⟩
                        obtain rfl := hq.symm
                        cases hfu : inB x.fuse (-1) 1000
                        · go_wp2
                          go_ret
                          exact ⟨ret_bool (by rw [HF.out, hfu]), B3⟩
                        · go_wp2
                          go_ret
                          exact ⟨ret_bool (by rw [HF.out, hfu]), B3⟩
                    · have HF : Hid (arrB x ms ds = false) := by unfold Hid; rw [HT.out]; unfold seqB6; simp; omega
                      have hgt : x.tail + 4 < x.seq := by omega
                      go_wp2
                      go_ret
                      exact ⟨ret_bool HF.out.symm, B3⟩
              · have e1 : (x.lost == -1) = false := by simpa using l1
                have HLT : Hid (lostB6 x = true) := by unfold Hid; rw [HLB.out]; simp [l1]
                clear l1
                have HT : Hid (arrB x ms ds = seqB6 x) := by unfold Hid arrB; rw [hg, hid, hms, hds, HLT.out]; rfl
                go_wp2_with fail
                refine (l1In_any _ _ _ _).mono ?_
                rintro e wq ⟨rfl, hq⟩
                obtain rfl := hq.symm
                cases ht : inB x.tail 0 60000
                · have HF : Hid (arrB x ms ds = false) := by unfold Hid; rw [HT.out]; unfold seqB6; simp [ht]
                  go_wp2
                  go_ret
                  exact ⟨ret_bool HF.out.symm, B3⟩
                · skip
                  have ht2 : 0 ≤ x.tail ∧ x.tail ≤ 60000 := by unfold inB at ht; simpa using ht
                  have hw4 : IntKind.i64.wrap (x.tail + 4) = x.tail + 4 := IntWalk.i64_in _ (by omega)
                  go_wp2_with fail
                  refine (l1In_any _ _ _ _).mono ?_
                  rintro e wq ⟨rfl, hq⟩
                  obtain rfl := hq.symm
                  cases hs : inB x.seq x.tail 60000
                  · have HF : Hid (arrB x ms ds = false) := by unfold Hid; rw [HT.out]; unfold seqB6; simp [hs]
                    go_wp2
                    go_ret
                    exact ⟨ret_bool HF.out.symm, B3⟩
                  · skip
                    by_cases hle : x.seq ≤ x.tail + 4
                    · skip
                      go_wp2_with fail
                      refine (l1In_any _ _ _ _).mono ?_
                      rintro e wq ⟨rfl, hq⟩
                      obtain rfl := hq.symm
                      cases hge : inB x.gen 0 60000
                      · have HF : Hid (arrB x ms ds = false) := by unfold Hid; rw [HT.out]; unfold seqB6; simp [hge]
                        go_wp2
                        go_ret
                        exact ⟨ret_bool HF.out.symm, B3⟩
                      · skip
                        have HF : Hid (arrB x ms ds = inB x.fuse (-1) 1000) := by unfold Hid; rw [HT.out]; unfold seqB6; simp [ht, hs, hle, hge]
                        go_wp2_with fail
                        refine (l1In_any _ _ _ _).mono ?_
                        rintro e wq ⟨rfl, hq⟩
                        obtain rfl := hq.symm
                        cases hfu : inB x.fuse (-1) 1000
                        · go_wp2
                          go_ret
                          exact ⟨ret_bool (by rw [HF.out, hfu]), B3⟩
                        · go_wp2
                          go_ret
                          exact ⟨ret_bool (by rw [HF.out, hfu]), B3⟩
                    · have HF : Hid (arrB x ms ds = false) := by unfold Hid; rw [HT.out]; unfold seqB6; simp; omega
                      have hgt : x.tail + 4 < x.seq := by omega
                      go_wp2
                      go_ret
                      exact ⟨ret_bool HF.out.symm, B3⟩

set_option maxHeartbeats 1600000 in
theorem specLiveAt_any (w : World) (E F : TypeId) (x : ArrN) (am ad : Option Addr) (nm cm nd cd : Nat) (ms : List MemD) (m s : Int) (h0 : (tMemS E F).Rd w [.slice am nm cm] ms) (hw : wtMemS ms ≤ 2097152) :
    Calls Tryz.prog 342 #[.agg #[.int .i64 x.id, .int .i64 x.n, .int .i64 x.s, .slice am nm cm, .int .i64 x.lost, .int .i64 x.built, .int .i64 x.seq, .int .i64 x.tail, .int .i64 x.gen, .slice ad nd cd, .int .i64 x.fuse, .bool x.down, .bool x.broken], .int .i64 m, .int .i64 s] w fun e w' => e = .returned (.bool (liveB x ms m s)) ∧ Below w.heap.size w w' := by
  obtain ⟨hl, hc, hm⟩ := row_length h0
  have hnm : nm ≤ 2097152 := by unfold wtMemS at hw; omega
  have hA := new_below w (.cells #[.int .i64 x.id, .int .i64 x.n, .int .i64 x.s, .slice am nm cm, .int .i64 x.lost, .int .i64 x.built, .int .i64 x.seq, .int .i64 x.tail, .int .i64 x.gen, .slice ad nd cd, .int .i64 x.fuse, .bool x.down, .bool x.broken] 29)
  have X := Box.new w 29 #[.int .i64 x.id, .int .i64 x.n, .int .i64 x.s, .slice am nm cm, .int .i64 x.lost, .int .i64 x.built, .int .i64 x.seq, .int .i64 x.tail, .int .i64 x.gen, .slice ad nd cd, .int .i64 x.fuse, .bool x.down, .bool x.broken]
  obtain ⟨k0, k1, k2, k3, k4, k5, k6, k7, k8, k9, k10, k11, k12⟩ := X.cells13
  have h1 := h0.below hA
  have hwn : IntKind.i64.wrap ((nm : Int) - 1) = (nm : Int) - 1 := IntWalk.i64_in _ (by omega)
  go_enter Tryz.func342, Tryz.ntmps342
  go_wp2_with fail
  generalize w.alloc (.cells #[.int .i64 x.id, .int .i64 x.n, .int .i64 x.s, .slice am nm cm, .int .i64 x.lost, .int .i64 x.built, .int .i64 x.seq, .int .i64 x.tail, .int .i64 x.gen, .slice ad nd cd, .int .i64 x.fuse, .bool x.down, .bool x.broken] 29) = W at hA X h1 k0 k1 k2 k3 k4 k5 k6 k7 k8 k9 k10 k11 k12 ⊢
  refine (l1In_any _ _ _ _).mono ?_
  rintro e wq ⟨rfl, hq⟩
  obtain rfl := hq.symm
  cases hi : inB m 0 ((nm : Int) - 1)
  · have HF : Hid (liveB x ms m s = false) := by unfold Hid liveB; rw [hl, hi]; rfl
    go_wp2
    go_ret
    exact ⟨ret_bool HF.out.symm, hA⟩
  · have hi2 : 0 ≤ m ∧ m ≤ (nm : Int) - 1 := by unfold inB at hi; simpa using hi
    obtain ⟨j, rfl⟩ := Int.eq_ofNat_of_zero_le hi2.1
    rcases quads_at rfl h1 with h0' | ⟨b, off, rfl, hbl, hcs⟩
    · omega
    have hdj : ms[j]? = some (ms[j]'(by omega)) := List.getElem?_eq_getElem (by omega)
    generalize ms[j]'(by omega) = d at hdj
    obtain ⟨v0, v1, v2, v3, hv0, hv1, hv2, hv3, hrv⟩ := hcs j d hdj
    obtain ⟨a0, c0, a1, c1, a3, c3, ss, cs, f, bs, rfl, rfl, rfl, rfl, rfl, r0, r1, r3⟩ := mem_at hrv
    have i1 : (0 : Int) ≤ (j : Int) := by omega
    have i2 : (j : Int) < (nm : Int) := by omega
    have HD : Hid (liveB x ms (j : Int) s = (!f && (!decide ((j : Int) = x.lost) || decide (s < x.built)))) := by
      unfold Hid liveB
      rw [hl, hi, Int.toNat_natCast, List.getD_eq_getElem?_getD, hdj]
      rfl
    clear hcs hv0 hv1 hv3 hrv r0 r1 r3 hdj
    cases f
    · by_cases hj : (j : Int) = x.lost
      · have e1 : ((j : Int) == x.lost) = true := by simpa using hj
        have e2 : ((j : Int) != x.lost) = false := by simpa using hj
        have HF : Hid (liveB x ms (j : Int) s = decide (s < x.built)) := by unfold Hid; rw [HD.out]; simp [hj]
        clear hj
        go_wp2
        go_ret
        exact ⟨ret_bool HF.out.symm, hA⟩
      · have e1 : ((j : Int) == x.lost) = false := by simpa using hj
        have e2 : ((j : Int) != x.lost) = true := by simpa using hj
        have HF : Hid (liveB x ms (j : Int) s = true) := by unfold Hid; rw [HD.out]; simp [hj]
        clear hj
        go_wp2
        go_ret
        exact ⟨ret_bool HF.out.symm, hA⟩
    · have HF : Hid (liveB x ms (j : Int) s = false) := by unfold Hid; rw [HD.out]; rfl
      go_wp2
      go_ret
      exact ⟨ret_bool HF.out.symm, hA⟩

end Go.Proofs.YtbkkjfgjlapadaaGreat

/-
  The specification's EngOk walked. Condition: the engine weighs at most 1048576.
-/
namespace Go.Proofs.YtbkkjfgjlapadaaGreat
open Go.RowKit

set_option maxRecDepth 20000 in
set_option maxHeartbeats 6400000 in
theorem l15Job_any (w : World) (x : ArrN) (vm vd vw va vt : Value) (aj : Option Addr) (cj : Nat) (js : List JobD) (j : Nat) (hlt : j < js.length) (hJ : (tJobS 0).Rd w [.slice aj js.length cj] js) (hw : wttJobS js ≤ 1048576) :
    Calls Tryz.prog 77 #[.agg (engC x vm vd vw (.slice aj js.length cj) va vt), .int .i64 j] w fun e w' => e = .returned (.bool (jobAt x.n x.s js j)) ∧ Below w.heap.size w w' := by
  have hjl : js.length ≤ 1048576 := by unfold wttJobS at hw; omega
  rcases jobS_at hJ with h0' | ⟨b, off, rfl, hbl, hcs⟩
  · omega
  obtain ⟨o, d1, b1, k, zs, t1, us, q1, hdj⟩ : ∃ o d1 b1 k zs t1 us q1, js[j]? = some (o, d1, b1, k, zs, t1, us, q1) := ⟨_, _, _, _, _, _, _, _, List.getElem?_eq_getElem (by omega)⟩
  have hin := job_inner hdj
  have hlen : zs.length ≤ 2097152 := by unfold wttJobS at hw; simp only [wJob] at hin; omega
  have hlen2 : us.length ≤ 2097152 := by unfold wttJobS at hw; simp only [wJob] at hin; omega
  obtain ⟨av0, cv0, av1, cv1, c0, c1, c2, c3, c4, c5, c6, c7, r0, r1⟩ := hcs j o d1 b1 k zs t1 us q1 hdj
  have hR : Hid (jobAt x.n x.s js j = ((decide (codeC x.n x.s o d1 b1 k zs = 0) && (inB t1 0 40 && (gotB us && wentB q1))) && !((js.take j).any fun y => clashD x.n x.s (jobC y) (o, d1, b1, k, zs)))) := jobAt_eq hdj
  generalize jobAt x.n x.s js j = R at hR ⊢
  have i1 : (0 : Int) ≤ (j : Int) := by omega
  have i2 : (j : Int) < (js.length : Int) := by omega
  unfold engC
  go_enter Tryz.func77, Tryz.ntmps77
  have hB0 := new_below w (.cells #[.int .i64 x.id, .int .i64 x.n, .int .i64 x.s, vm, .int .i64 x.lost, .int .i64 x.built, .int .i64 x.seq, .int .i64 x.tail, .int .i64 x.gen, vd, .int .i64 x.fuse, .bool x.down, .bool x.broken, vw, .slice (some ⟨b, off, none⟩) js.length cj, va, vt] 35)
  have f0 := (hB0.cell (p := ⟨b, off + j * 8, none⟩) hbl).trans c0
  have f1 := (hB0.cell (p := ⟨b, off + j * 8 + 1, none⟩) hbl).trans c1
  have f2 := (hB0.cell (p := ⟨b, off + j * 8 + 2, none⟩) hbl).trans c2
  have f3 := (hB0.cell (p := ⟨b, off + j * 8 + 3, none⟩) hbl).trans c3
  have f4 := (hB0.cell (p := ⟨b, off + j * 8 + 4, none⟩) hbl).trans c4
  have f5 := (hB0.cell (p := ⟨b, off + j * 8 + 5, none⟩) hbl).trans c5
  have f6 := (hB0.cell (p := ⟨b, off + j * 8 + 6, none⟩) hbl).trans c6
  have f7 := (hB0.cell (p := ⟨b, off + j * 8 + 7, none⟩) hbl).trans c7
  have RR0 := hidden r0
  have RR1 := hidden r1
  clear hB0 hcs hin hdj c0 c1 c2 c3 c4 c5 c6 c7 r0 r1
  go_wp2_with fail
  refine seal_new2 ?_
  intro V A X B
  have lA := A.lt
  have lX := X.lt
  refine (specCmdCode_any _ x.n x.s o d1 b1 k _ _ _ zs rfl (ints_rd (RR0.out.below B)).1 hlen).mono ?_
  rintro e w1 ⟨rfl, b1'⟩
  have A := A.below b1' lA
  have X := X.below b1' lX
  have B := Below.andThen B b1'
  have hbv : b < w1.heap.size := Nat.lt_of_lt_of_le hbl B.size
  have hrange := code_range x.n x.s o d1 b1 k zs
  clear b1' f0 f1 f2 f3 f4 f5 f6 f7
  obtain ⟨k0, k1, k2, k3, k4, k5, k6, k7, k8, k9, k10, k11, k12, k13, k14, k15, k16⟩ := A.cells17
  obtain ⟨l0, l1, l2, l3, l4, l5, l6, l7⟩ := X.cells8e
  by_cases hc : codeC x.n x.s o d1 b1 k zs = 0
  rotate_left
  · have HR : Hid (R = false) := by unfold Hid; rw [hR.out, decide_eq_false hc]; simp
    generalize codeC x.n x.s o d1 b1 k zs = C at hc hrange ⊢
    have hcn : (C != 0) = true := by simp [hc]
    go_wp2
    go_ret
    exact ⟨ret_bool HR.out.symm, B⟩
  rw [hc]
  rw [decide_eq_true hc] at hR
  clear hc hrange
  go_wp2_with fail
  refine (l1In_any _ _ _ _).mono ?_
  rintro e wD ⟨rfl, rfl⟩
  cases hI : inB t1 0 40
  · have HR : Hid (R = false) := by unfold Hid; rw [hR.out, hI]; simp
    clear hI
    go_wp2
    go_ret
    exact ⟨ret_bool HR.out.symm, B⟩
  rw [hI] at hR
  clear hI
  go_wp2_with fail
  refine (l1Words_any _ _ _ _ us rfl (ints_rd (RR1.out.below B)).1 hlen2).mono ?_
  rintro e wE ⟨rfl, rfl⟩
  cases hS : allW us
  · have HR : Hid (R = false) := by unfold Hid; rw [hR.out]; unfold gotB; rw [hS]; simp
    clear hS
    go_wp2
    go_ret
    exact ⟨ret_bool HR.out.symm, B⟩
  by_cases h6 : us.length ≤ 6
  rotate_left
  · have HR : Hid (R = false) := by unfold Hid; rw [hR.out]; unfold gotB; rw [decide_eq_false h6]; simp
    have hq6 : (6 : Int) < (us.length : Int) := by omega
    clear hS
    go_wp2
    go_ret
    exact ⟨ret_bool HR.out.symm, B⟩
  have HR : Hid (R = (wentB q1 && !((js.take j).any fun y => clashD x.n x.s (jobC y) (o, d1, b1, k, zs)))) := by unfold Hid; rw [hR.out]; unfold gotB; rw [hS, decide_eq_true h6]; simp
  have hq6 : ¬ (6 : Int) < (us.length : Int) := by omega
  clear hS hR
  have HX := hidden X
  have HA := hidden A
  clear X A
  go_wp2
  go_loopw [6] (fun iv wr => ∃ m : Nat, m ≤ j ∧ iv = .int .i64 m ∧ ((js.take m).any fun y => clashD x.n x.s (jobC y) (o, d1, b1, k, zs)) = false ∧ Below w.heap.size w wr ∧ Below wE.heap.size wE wr) (fun iv _ => j - (intOf iv).toNat)
  case atStart => exact ⟨0, Nat.zero_le _, rfl, rfl, B, Below.refl _ _⟩
  case round =>
    clear k0 k1 k2 k3 k4 k5 k6 k7 k8 k9 k10 k11 k12 k13 k14 k15 k16 l0 l1 l2 l3 l4 l5 l6 l7 B
    obtain ⟨m, hm, rfl, ht, hb, hb2⟩ := hrel
    have A := HA.out.below hb2 HA.out.lt
    have X := HX.out.below hb2 HX.out.lt
    obtain ⟨k0, k1, k2, k3, k4, k5, k6, k7, k8, k9, k10, k11, k12, k13, k14, k15, k16⟩ := A.cells17
    obtain ⟨l0, l1, l2, l3, l4, l5, l6, l7⟩ := X.cells8e
    have lA := A.lt
    have lX := X.lt
    by_cases hlt2 : m < j
    · rcases jobS_at (hJ.below hb) with h0' | ⟨bb, oo, hbo, hbl2, hcs⟩
      · omega
      simp only [Option.some.injEq, Addr.mk.injEq, and_true] at hbo
      obtain ⟨rfl, rfl⟩ := hbo
      obtain ⟨o2, d2, b2, k2', zs2, t2, us2, q2, hdj⟩ : ∃ o d1 b1 k zs t1 us q1, js[m]? = some (o, d1, b1, k, zs, t1, us, q1) := ⟨_, _, _, _, _, _, _, _, List.getElem?_eq_getElem (by omega)⟩
      have hin := job_inner hdj
      have hlen3 : zs2.length ≤ 2097152 := by unfold wttJobS at hw; simp only [wJob] at hin; omega
      obtain ⟨bv0, dv0, bv1, dv1, c0, c1, c2, c3, c4, c5, c6, c7, r0, r1⟩ := hcs m o2 d2 b2 k2' zs2 t2 us2 q2 hdj
      have j1 : (0 : Int) ≤ (m : Int) := by omega
      have j2 : (m : Int) < (js.length : Int) := by omega
      have j3 : (m : Int) < (j : Int) := by omega
      have HIT := hidden (any_hit (p := fun y => clashD x.n x.s (jobC y) (o, d1, b1, k, zs)) (l := js.take j) (j := m) (x := (o2, d2, b2, k2', zs2, t2, us2, q2)) (by rw [List.getElem?_take, if_pos hlt2]; exact hdj))
      have STP := hidden (any_step (p := fun y => clashD x.n x.s (jobC y) (o, d1, b1, k, zs)) hdj)
      have HT := hidden ht
      have Q0 := hidden (ints_rd r0).1
      have Q1 := hidden (ints_rd (RR0.out.below hb)).1
      have EQ : Hid (clashD x.n x.s (jobC (o2, d2, b2, k2', zs2, t2, us2, q2)) (o, d1, b1, k, zs) = metC (spanC x.n x.s o2 d2 b2 k2' zs2) (spanC x.n x.s o d1 b1 k zs)) := rfl
      clear hcs hdj hin ht r0 r1 c5 c6 c7
      cases hmm : metC (spanC x.n x.s o2 d2 b2 k2' zs2) (spanC x.n x.s o d1 b1 k zs)
      · have HS := hidden (STP.out (by rw [EQ.out, hmm]) HT.out)
        go_wp2_with fail
        go_region_held3 (fun w' => (∀ q, w'.cell? ⟨w.heap.size, q, none⟩ = wr.cell? ⟨w.heap.size, q, none⟩) ∧ (∀ q, w'.cell? ⟨w.heap.size + 1, q, none⟩ = wr.cell? ⟨w.heap.size + 1, q, none⟩) ∧ (∀ q, w'.cell? ⟨b, q, none⟩ = wr.cell? ⟨b, q, none⟩))
          (first | (exact ⟨fun q => hbC.cell (p := ⟨w.heap.size, q, none⟩) lA, fun q => hbC.cell (p := ⟨w.heap.size + 1, q, none⟩) lX, fun q => hbC.cell (p := ⟨b, q, none⟩) hbl2⟩) | (exact ⟨fun _ => rfl, fun _ => rfl, fun _ => rfl⟩) | go_keep)
          (first | (go_at_call 156; refine (specClash_any _ x.n x.s o2 d2 b2 k2' _ _ _ zs2 o d1 b1 k _ _ _ zs rfl Q0.out.draw hlen3 rfl Q1.out.draw hlen).mono ?_; rintro e wC ⟨he, hbC0⟩; rw [hmm] at he; subst he; have hbC : Below wr.heap.size wr wC := (Below.refl wr.heap.size wr).drew.trans hbC0))
        have HB := hidden (Below.andThen hb hbC)
        have HB2 := hidden (Below.andThen hb2 hbC)
        go_wp2
        go_roundw
        case rel => exact ⟨m + 1, by omega, by go_num, HS.out, HB.out, HB2.out⟩
        case measure => simp [intOf]; omega
      · have HS := hidden (HIT.out (by rw [EQ.out, hmm]))
        have HR2 : Hid (R = false) := by unfold Hid; rw [HR.out, HS.out]; simp
        go_wp2_with fail
        go_region_held3 (fun w' => (∀ q, w'.cell? ⟨w.heap.size, q, none⟩ = wr.cell? ⟨w.heap.size, q, none⟩) ∧ (∀ q, w'.cell? ⟨w.heap.size + 1, q, none⟩ = wr.cell? ⟨w.heap.size + 1, q, none⟩) ∧ (∀ q, w'.cell? ⟨b, q, none⟩ = wr.cell? ⟨b, q, none⟩))
          (first | (exact ⟨fun q => hbC.cell (p := ⟨w.heap.size, q, none⟩) lA, fun q => hbC.cell (p := ⟨w.heap.size + 1, q, none⟩) lX, fun q => hbC.cell (p := ⟨b, q, none⟩) hbl2⟩) | (exact ⟨fun _ => rfl, fun _ => rfl, fun _ => rfl⟩) | go_keep)
          (first | (go_at_call 156; refine (specClash_any _ x.n x.s o2 d2 b2 k2' _ _ _ zs2 o d1 b1 k _ _ _ zs rfl Q0.out.draw hlen3 rfl Q1.out.draw hlen).mono ?_; rintro e wC ⟨he, hbC0⟩; rw [hmm] at he; subst he; have hbC : Below wr.heap.size wr wC := (Below.refl wr.heap.size wr).drew.trans hbC0))
        have HB := hidden (Below.andThen hb hbC)
        go_wp2
        go_ret
        exact ⟨ret_bool HR2.out.symm, HB.out⟩
    · obtain rfl : m = j := by omega
      have HR2 : Hid (R = (decide (q1 = 0) || inB q1 4 7)) := by unfold Hid; rw [HR.out, ht]; simp [wentB]
      clear ht HR
      by_cases hq : q1 = 0
      · have hqn : (q1 == 0) = true := by simp [hq]
        have HR3 : Hid (R = true) := by unfold Hid; rw [HR2.out, decide_eq_true hq]; simp
        clear HR2
        go_wp2
        go_ret
        exact ⟨ret_bool HR3.out.symm, hb⟩
      · have hqn : (q1 == 0) = false := by simp [hq]
        have HR3 : Hid (R = inB q1 4 7) := by unfold Hid; rw [HR2.out, decide_eq_false hq]; simp
        clear HR2
        go_wp2_with fail
        refine (l1In_any _ _ _ _).mono ?_
        rintro e wF ⟨rfl, rfl⟩
        go_wp2
        go_ret
        exact ⟨ret_bool HR3.out.symm, hb⟩

set_option maxRecDepth 20000 in
set_option maxHeartbeats 3200000 in
theorem specEngOk_any (w : World) (cs : Array Value) (e : EngD) (h : EngRd w cs e) (hw : wtEng e ≤ 1048576) :
    Calls Tryz.prog 29 #[.agg cs] w fun e' w' => e' = .returned (.bool (engB e)) ∧ Below w.heap.size w w' := by
  obtain ⟨x, ms, ds, ws, js, an, ts⟩ := e
  obtain ⟨am, cm, ad, cd, aw, cw, aj, cj, aa, ca, au, cu, rfl, r0, r1, r2, r3, r4, r5⟩ := h.parts
  have HT : wtArr ms ds + wttCmdS ws + wttJobS js + wttAnsS an + wttTurnS ts ≤ 1048576 := hw
  have HE : Hid (engB ⟨x, ms, ds, ws, js, an, ts⟩ = (arrB x ms ds && ((decide (ws.length ≤ 8) && (decide (js.length ≤ 4) && (decide (an.length ≤ 8) && decide (ts.length ≤ 400)))) && jobsB x.n x.s js js.length))) := rfl
  generalize engB ⟨x, ms, ds, ws, js, an, ts⟩ = R at HE ⊢
  have hjl : js.length ≤ 1048576 := by have : wttJobS js = js.length + sumL (js.map wJob) := rfl; omega
  clear hw h
  go_enter Tryz.func29, Tryz.ntmps29
  unfold engC
  have HA0 := hidden (Box.new w 35 #[.int .i64 x.id, .int .i64 x.n, .int .i64 x.s, .slice am ms.length cm, .int .i64 x.lost, .int .i64 x.built, .int .i64 x.seq, .int .i64 x.tail, .int .i64 x.gen, .slice ad ds.length cd, .int .i64 x.fuse, .bool x.down, .bool x.broken, .slice aw ws.length cw, .slice aj js.length cj, .slice aa an.length ca, .slice au ts.length cu])
  have HB0 := hidden (new_below w (.cells #[.int .i64 x.id, .int .i64 x.n, .int .i64 x.s, .slice am ms.length cm, .int .i64 x.lost, .int .i64 x.built, .int .i64 x.seq, .int .i64 x.tail, .int .i64 x.gen, .slice ad ds.length cd, .int .i64 x.fuse, .bool x.down, .bool x.broken, .slice aw ws.length cw, .slice aj js.length cj, .slice aa an.length ca, .slice au ts.length cu] 35))
  go_wp2
  generalize w.alloc (.cells #[.int .i64 x.id, .int .i64 x.n, .int .i64 x.s, .slice am ms.length cm, .int .i64 x.lost, .int .i64 x.built, .int .i64 x.seq, .int .i64 x.tail, .int .i64 x.gen, .slice ad ds.length cd, .int .i64 x.fuse, .bool x.down, .bool x.broken, .slice aw ws.length cw, .slice aj js.length cj, .slice aa an.length ca, .slice au ts.length cu] 35) = V at HA0 HB0 ⊢
  go_loopw [3] (fun iv wr => ∃ m : Nat, m ≤ js.length ∧ iv = .int .i64 m ∧ jobsB x.n x.s js m = true ∧ Below V.heap.size V wr) (fun iv _ => js.length - (intOf iv).toNat)
  case atStart => exact ⟨0, Nat.zero_le _, rfl, rfl, Below.refl _ _⟩
  case round =>
    obtain ⟨m, hm, rfl, ht, hb⟩ := hrel
    have A := HA0.out.below hb HA0.out.lt
    have B := Below.andThen HB0.out hb
    obtain ⟨k0, k1, k2, k3, k4, k5, k6, k7, k8, k9, k10, k11, k12, k13, k14, k15, k16⟩ := A.cells17
    by_cases hlt : m < js.length
    · have CJ := hidden (l15Job_any wr x (.slice am ms.length cm) (.slice ad ds.length cd) (.slice aw ws.length cw) (.slice aa an.length ca) (.slice au ts.length cu) aj cj js m hlt (r3.below B) (by omega))
      have STP := hidden (jobsB_step ht)
      have FL := hidden (jobsB_fail (gn := x.n) (gs := x.s) (js := js) (n := js.length) hlt)
      clear ht
      cases hJ : jobAt x.n x.s js m
      · have HF : Hid (R = false) := by unfold Hid; rw [HE.out, FL.out hJ]; simp
        go_wp2_with fail
        refine CJ.out.mono ?_
        rintro e w1 ⟨he, b⟩
        rw [hJ] at he
        subst he
        have HB := hidden (Below.andThen B b)
        go_wp2
        go_ret
        exact ⟨ret_bool HF.out.symm, HB.out⟩
      · have HS := hidden (STP.out hJ)
        go_wp2_with fail
        refine CJ.out.mono ?_
        rintro e w1 ⟨he, b⟩
        rw [hJ] at he
        subst he
        have HB := hidden (Below.andThen hb b)
        go_wp2
        go_roundw
        case rel => exact ⟨m + 1, by omega, by go_num, HS.out, HB.out⟩
        case measure => simp [intOf]; omega
    · obtain rfl : m = js.length := by omega
      rw [ht] at HE
      clear ht
      go_wp2_with fail
      refine (specArrOk_any _ 0 0 0 x _ _ _ _ _ _ ms ds (r0.below B) (r1.below B) (by omega)).mono ?_
      rintro e w1 ⟨rfl, b⟩
      have A := A.below b A.lt
      have B := Below.andThen B b
      clear k0 k1 k2 k3 k4 k5 k6 k7 k8 k9 k10 k11 k12 k13 k14 k15 k16
      obtain ⟨k0, k1, k2, k3, k4, k5, k6, k7, k8, k9, k10, k11, k12, k13, k14, k15, k16⟩ := A.cells17
      cases hA : arrB x ms ds
      · have HR : Hid (R = false) := by unfold Hid; rw [HE.out, hA]; rfl
        clear hA
        go_wp2
        go_ret
        exact ⟨ret_bool HR.out.symm, B⟩
      have HR : Hid (R = (decide (ws.length ≤ 8) && (decide (js.length ≤ 4) && (decide (an.length ≤ 8) && decide (ts.length ≤ 400))))) := by unfold Hid; rw [HE.out, hA]; simp
      clear hA HE
      by_cases q0 : ws.length ≤ 8
      · by_cases q1 : js.length ≤ 4
        · by_cases q2 : an.length ≤ 8
          · have e : Hid (∀ b : Bool, (decide (ws.length ≤ 8) && (decide (js.length ≤ 4) && (decide (an.length ≤ 8) && b))) = b) := fun b => by simp [q0, q1, q2]
            have e2 : Hid (decide ((ts.length : Int) ≤ 400) = decide (ts.length ≤ 400)) := by unfold Hid; rw [decide_eq_decide]; omega
            go_wp2
            go_ret
            exact ⟨ret_bool (by rw [HR.out, e.out, e2.out]), B⟩
          · have HF : Hid (R = false) := by unfold Hid; rw [HR.out, decide_eq_false q2]; simp
            go_wp2
            go_ret
            exact ⟨ret_bool HF.out.symm, B⟩
        · have HF : Hid (R = false) := by unfold Hid; rw [HR.out, decide_eq_false q1]; simp
          go_wp2
          go_ret
          exact ⟨ret_bool HF.out.symm, B⟩
      · have HF : Hid (R = false) := by unfold Hid; rw [HR.out, decide_eq_false q0]; simp
        go_wp2
        go_ret
        exact ⟨ret_bool HF.out.symm, B⟩

end Go.Proofs.YtbkkjfgjlapadaaGreat

/-
  The specification's CanBegin walked, with l15Can. Condition: the engine weighs at most 1048576.
-/
namespace Go.Proofs.YtbkkjfgjlapadaaGreat
open Go.RowKit

set_option maxRecDepth 20000 in
set_option maxHeartbeats 6400000 in
theorem l15Can_any (w : World) (x : ArrN) (vm vd : Value) (aw aj aa au : Option Addr) (cw cj na ca nu cu : Nat) (ws : List CmdD) (js : List JobD) (m : Nat) (c : CmdD) (hc : ws[m]? = some c) (hW : (tCmdS 0).Rd w [.slice aw ws.length cw] ws) (hJ : (tJobS 0).Rd w [.slice aj js.length cj] js) (hw : wttCmdS ws + wttJobS js ≤ 1048576) (hna : na ≤ 1048576) (hnu : nu ≤ 1048576) :
    Calls Tryz.prog 81 #[.agg (engC x vm vd (.slice aw ws.length cw) (.slice aj js.length cj) (.slice aa na ca) (.slice au nu cu)), .int .i64 m] w fun e w' => e = .returned (.bool (freeD x.n x.s js ws m c && (decide (js.length < 4) && (decide (na + js.length < 8) && decide (nu + js.length < 400))))) ∧ Below w.heap.size w w' := by
  have hjl : js.length ≤ 1048576 := by unfold wttJobS at hw; omega
  have hwl : ws.length ≤ 1048576 := by unfold wttCmdS at hw; omega
  have hm := (List.getElem?_eq_some_iff.1 hc).1
  rcases cmdS_at hW with h0' | ⟨b, off, rfl, hbl, hcs⟩
  · omega
  obtain ⟨o, d1, b1, k, zs⟩ := c
  have hdj := hc
  have hin := cmd_inner hdj
  have hlen : zs.length ≤ 2097152 := by unfold wttCmdS at hw; simp only at hin; omega
  obtain ⟨av, cv, c0, c1, c2, c3, c4, r0⟩ := hcs m o d1 b1 k zs hdj
  have i1 : (0 : Int) ≤ (m : Int) := by omega
  have i2 : (m : Int) < (ws.length : Int) := by omega
  clear hcs hdj hin hc
  unfold engC
  have HA0 := hidden (Box.new w 35 #[.int .i64 x.id, .int .i64 x.n, .int .i64 x.s, vm, .int .i64 x.lost, .int .i64 x.built, .int .i64 x.seq, .int .i64 x.tail, .int .i64 x.gen, vd, .int .i64 x.fuse, .bool x.down, .bool x.broken, .slice (some ⟨b, off, none⟩) ws.length cw, .slice aj js.length cj, .slice aa na ca, .slice au nu cu])
  have HB0 := hidden (new_below w (.cells #[.int .i64 x.id, .int .i64 x.n, .int .i64 x.s, vm, .int .i64 x.lost, .int .i64 x.built, .int .i64 x.seq, .int .i64 x.tail, .int .i64 x.gen, vd, .int .i64 x.fuse, .bool x.down, .bool x.broken, .slice (some ⟨b, off, none⟩) ws.length cw, .slice aj js.length cj, .slice aa na ca, .slice au nu cu] 35))
  go_enter Tryz.func81, Tryz.ntmps81
  go_wp2
  generalize w.alloc (.cells #[.int .i64 x.id, .int .i64 x.n, .int .i64 x.s, vm, .int .i64 x.lost, .int .i64 x.built, .int .i64 x.seq, .int .i64 x.tail, .int .i64 x.gen, vd, .int .i64 x.fuse, .bool x.down, .bool x.broken, .slice (some ⟨b, off, none⟩) ws.length cw, .slice aj js.length cj, .slice aa na ca, .slice au nu cu] 35) = V at HA0 HB0 ⊢
  go_loopw [5] (fun iv wr => ∃ j : Nat, j ≤ js.length ∧ iv = .int .i64 j ∧ ((js.take j).any fun y => clashD x.n x.s (jobC y) (o, d1, b1, k, zs)) = false ∧ Below V.heap.size V wr) (fun iv _ => js.length - (intOf iv).toNat)
  case atStart => exact ⟨0, Nat.zero_le _, rfl, rfl, Below.refl _ _⟩
  case round =>
    obtain ⟨j, hj, rfl, ht, hb⟩ := hrel
    have A := HA0.out.below hb HA0.out.lt
    have B := Below.andThen HB0.out hb
    have y1 : wr.cell? ⟨w.heap.size, 1, none⟩ = some (.int .i64 x.n) := A.cell 1
    have y2 : wr.cell? ⟨w.heap.size, 2, none⟩ = some (.int .i64 x.s) := A.cell 2
    have y13 : wr.cell? ⟨w.heap.size, 13, none⟩ = some (.slice (some ⟨b, off, none⟩) ws.length cw) := A.cell 13
    have y14 : wr.cell? ⟨w.heap.size, 14, none⟩ = some (.slice aj js.length cj) := A.cell 14
    have y15 : wr.cell? ⟨w.heap.size, 15, none⟩ = some (.slice aa na ca) := A.cell 15
    have y16 : wr.cell? ⟨w.heap.size, 16, none⟩ = some (.slice au nu cu) := A.cell 16
    have lA := A.lt
    have z0 := (B.cell (p := ⟨b, off + m * 5, none⟩) hbl).trans c0
    have z1 := (B.cell (p := ⟨b, off + m * 5 + 1, none⟩) hbl).trans c1
    have z2 := (B.cell (p := ⟨b, off + m * 5 + 2, none⟩) hbl).trans c2
    have z3 := (B.cell (p := ⟨b, off + m * 5 + 3, none⟩) hbl).trans c3
    have z4 := (B.cell (p := ⟨b, off + m * 5 + 4, none⟩) hbl).trans c4
    have hbr : b < wr.heap.size := Nat.lt_of_lt_of_le hbl B.size
    have Q1 := hidden (ints_rd (r0.below B)).1
    by_cases hlt : j < js.length
    · rcases jobS_at (hJ.below B) with h0' | ⟨bj, oj, rfl, hbj, hcj⟩
      · omega
      obtain ⟨o2, d2, b2, k2, zs2, t2, us2, q2, hdj⟩ : ∃ o d1 b1 k zs t1 us q1, js[j]? = some (o, d1, b1, k, zs, t1, us, q1) := ⟨_, _, _, _, _, _, _, _, List.getElem?_eq_getElem (by omega)⟩
      have hin := job_inner hdj
      have hlen3 : zs2.length ≤ 2097152 := by unfold wttJobS at hw; simp only [wJob] at hin; omega
      obtain ⟨bv0, dv0, bv1, dv1, e0, e1, e2, e3, e4, e5, e6, e7, s0, s1⟩ := hcj j o2 d2 b2 k2 zs2 t2 us2 q2 hdj
      have j1 : (0 : Int) ≤ (j : Int) := by omega
      have j2 : (j : Int) < (js.length : Int) := by omega
      have HIT := hidden (any_hit (p := fun y => clashD x.n x.s (jobC y) (o, d1, b1, k, zs)) (l := js) (j := j) (x := (o2, d2, b2, k2, zs2, t2, us2, q2)) hdj)
      have STP := hidden (any_step (p := fun y => clashD x.n x.s (jobC y) (o, d1, b1, k, zs)) hdj)
      have HT := hidden ht
      have Q0 := hidden (ints_rd s0).1
      have EQ : Hid (clashD x.n x.s (jobC (o2, d2, b2, k2, zs2, t2, us2, q2)) (o, d1, b1, k, zs) = metC (spanC x.n x.s o2 d2 b2 k2 zs2) (spanC x.n x.s o d1 b1 k zs)) := rfl
      clear hcj hdj hin ht s0 s1 e5 e6 e7 y15 y16
      cases hmm : metC (spanC x.n x.s o2 d2 b2 k2 zs2) (spanC x.n x.s o d1 b1 k zs)
      · have HS := hidden (STP.out (by rw [EQ.out, hmm]) HT.out)
        go_wp2_with fail
        go_region_held3 (fun w' => (∀ q, w'.cell? ⟨w.heap.size, q, none⟩ = wr.cell? ⟨w.heap.size, q, none⟩) ∧ (∀ q, w'.cell? ⟨b, q, none⟩ = wr.cell? ⟨b, q, none⟩) ∧ (∀ q, w'.cell? ⟨bj, q, none⟩ = wr.cell? ⟨bj, q, none⟩))
          (first | (exact ⟨fun q => hbC.cell (p := ⟨w.heap.size, q, none⟩) lA, fun q => hbC.cell (p := ⟨b, q, none⟩) hbr, fun q => hbC.cell (p := ⟨bj, q, none⟩) hbj⟩) | (exact ⟨fun _ => rfl, fun _ => rfl, fun _ => rfl⟩) | go_keep)
          (first | (go_at_call 156; refine (specClash_any _ x.n x.s o2 d2 b2 k2 _ _ _ zs2 o d1 b1 k _ _ _ zs rfl Q0.out.draw hlen3 rfl Q1.out.draw hlen).mono ?_; rintro e wC ⟨he, hbC0⟩; rw [hmm] at he; subst he; have hbC : Below wr.heap.size wr wC := (Below.refl wr.heap.size wr).drew.trans hbC0))
        have HB := hidden (Below.andThen hb hbC)
        go_wp2
        go_roundw
        case rel => exact ⟨j + 1, by omega, by go_num, HS.out, HB.out⟩
        case measure => simp [intOf]; omega
      · have HF : Hid (freeD x.n x.s js ws m (o, d1, b1, k, zs) = false) := by unfold Hid freeD; rw [HIT.out (by rw [EQ.out, hmm])]; rfl
        go_wp2_with fail
        go_region_held3 (fun w' => (∀ q, w'.cell? ⟨w.heap.size, q, none⟩ = wr.cell? ⟨w.heap.size, q, none⟩) ∧ (∀ q, w'.cell? ⟨b, q, none⟩ = wr.cell? ⟨b, q, none⟩) ∧ (∀ q, w'.cell? ⟨bj, q, none⟩ = wr.cell? ⟨bj, q, none⟩))
          (first | (exact ⟨fun q => hbC.cell (p := ⟨w.heap.size, q, none⟩) lA, fun q => hbC.cell (p := ⟨b, q, none⟩) hbr, fun q => hbC.cell (p := ⟨bj, q, none⟩) hbj⟩) | (exact ⟨fun _ => rfl, fun _ => rfl, fun _ => rfl⟩) | go_keep)
          (first | (go_at_call 156; refine (specClash_any _ x.n x.s o2 d2 b2 k2 _ _ _ zs2 o d1 b1 k _ _ _ zs rfl Q0.out.draw hlen3 rfl Q1.out.draw hlen).mono ?_; rintro e wC ⟨he, hbC0⟩; rw [hmm] at he; subst he; have hbC : Below wr.heap.size wr wC := (Below.refl wr.heap.size wr).drew.trans hbC0))
        have HB := hidden (Below.andThen B hbC)
        go_wp2
        go_ret
        exact ⟨ret_bool (by rw [HF.out]; rfl), HB.out⟩
    · obtain rfl : j = js.length := by omega
      rw [List.take_length] at ht
      have HN := hidden ht
      have B0 := hidden B
      clear ht z0 z1 z2 z3 z4 y1 y2 y13 y15 y16 Q1 hbr
      obtain ⟨wo, hwo⟩ : ∃ y, y = wr := ⟨_, rfl⟩
      subst hwo
      go_wp2
      go_loopw [6] (fun iv wq => ∃ i : Nat, i ≤ m ∧ iv = .int .i64 i ∧ ((ws.take i).any fun y => clashD x.n x.s y (o, d1, b1, k, zs)) = false ∧ Below wo.heap.size wo wq) (fun iv _ => m - (intOf iv).toNat)
      case atStart => exact ⟨0, Nat.zero_le _, rfl, rfl, Below.refl _ _⟩
      case round =>
        obtain ⟨i, hi, rfl, ht, hb2⟩ := hrel
        have A := A.below hb2 lA
        have B := Below.andThen B0.out hb2
        have y1 := A.cell 1
        have y2 := A.cell 2
        have y13 := A.cell 13
        have y14 := A.cell 14
        have y15 := A.cell 15
        have y16 := A.cell 16
        dsimp at y1 y2 y13 y14 y15 y16
        have lA := A.lt
        have z0 := (B.cell (p := ⟨b, off + m * 5, none⟩) hbl).trans c0
        have z1 := (B.cell (p := ⟨b, off + m * 5 + 1, none⟩) hbl).trans c1
        have z2 := (B.cell (p := ⟨b, off + m * 5 + 2, none⟩) hbl).trans c2
        have z3 := (B.cell (p := ⟨b, off + m * 5 + 3, none⟩) hbl).trans c3
        have z4 := (B.cell (p := ⟨b, off + m * 5 + 4, none⟩) hbl).trans c4
        have hbr : b < wr.heap.size := Nat.lt_of_lt_of_le hbl B.size
        have Q1 := hidden (ints_rd (r0.below B)).1
        by_cases hlt2 : i < m
        · rcases cmdS_at (hW.below B) with h0' | ⟨bb, oo, hbo, hbl2, hcs⟩
          · omega
          simp only [Option.some.injEq, Addr.mk.injEq, and_true] at hbo
          obtain ⟨rfl, rfl⟩ := hbo
          obtain ⟨o2, d2, b2, k2, zs2, hdj⟩ : ∃ o d1 b1 k zs, ws[i]? = some (o, d1, b1, k, zs) := ⟨_, _, _, _, _, List.getElem?_eq_getElem (by omega)⟩
          have hin := cmd_inner hdj
          have hlen3 : zs2.length ≤ 2097152 := by unfold wttCmdS at hw; simp only at hin; omega
          obtain ⟨bv0, dv0, e0, e1, e2, e3, e4, s0⟩ := hcs i o2 d2 b2 k2 zs2 hdj
          have j1 : (0 : Int) ≤ (i : Int) := by omega
          have j2 : (i : Int) < (ws.length : Int) := by omega
          have j3 : (i : Int) < (m : Int) := by omega
          have HIT := hidden (any_hit (p := fun y => clashD x.n x.s y (o, d1, b1, k, zs)) (l := ws.take m) (j := i) (x := (o2, d2, b2, k2, zs2)) (by rw [List.getElem?_take, if_pos hlt2]; exact hdj))
          have STP := hidden (any_step (p := fun y => clashD x.n x.s y (o, d1, b1, k, zs)) hdj)
          have HT := hidden ht
          have Q0 := hidden (ints_rd s0).1
          have EQ : Hid (clashD x.n x.s (o2, d2, b2, k2, zs2) (o, d1, b1, k, zs) = metC (spanC x.n x.s o2 d2 b2 k2 zs2) (spanC x.n x.s o d1 b1 k zs)) := rfl
          clear hcs hdj hin ht s0 y14 y15 y16
          cases hmm : metC (spanC x.n x.s o2 d2 b2 k2 zs2) (spanC x.n x.s o d1 b1 k zs)
          · have HS := hidden (STP.out (by rw [EQ.out, hmm]) HT.out)
            go_wp2_with fail
            go_region_held3 (fun w' => (∀ q, w'.cell? ⟨w.heap.size, q, none⟩ = wr.cell? ⟨w.heap.size, q, none⟩) ∧ (∀ q, w'.cell? ⟨b, q, none⟩ = wr.cell? ⟨b, q, none⟩))
              (first | (exact ⟨fun q => hbC.cell (p := ⟨w.heap.size, q, none⟩) lA, fun q => hbC.cell (p := ⟨b, q, none⟩) hbr⟩) | (exact ⟨fun _ => rfl, fun _ => rfl⟩) | go_keep)
              (first | (go_at_call 156; refine (specClash_any _ x.n x.s o2 d2 b2 k2 _ _ _ zs2 o d1 b1 k _ _ _ zs rfl Q0.out.draw hlen3 rfl Q1.out.draw hlen).mono ?_; rintro e wC ⟨he, hbC0⟩; rw [hmm] at he; subst he; have hbC : Below wr.heap.size wr wC := (Below.refl wr.heap.size wr).drew.trans hbC0))
            have HB := hidden (Below.andThen hb2 hbC)
            go_wp2
            go_roundw
            case rel => exact ⟨i + 1, by omega, by go_num, HS.out, HB.out⟩
            case measure => simp [intOf]; omega
          · have HF : Hid (freeD x.n x.s js ws m (o, d1, b1, k, zs) = false) := by unfold Hid freeD; rw [HIT.out (by rw [EQ.out, hmm])]; simp
            go_wp2_with fail
            go_region_held3 (fun w' => (∀ q, w'.cell? ⟨w.heap.size, q, none⟩ = wr.cell? ⟨w.heap.size, q, none⟩) ∧ (∀ q, w'.cell? ⟨b, q, none⟩ = wr.cell? ⟨b, q, none⟩))
              (first | (exact ⟨fun q => hbC.cell (p := ⟨w.heap.size, q, none⟩) lA, fun q => hbC.cell (p := ⟨b, q, none⟩) hbr⟩) | (exact ⟨fun _ => rfl, fun _ => rfl⟩) | go_keep)
              (first | (go_at_call 156; refine (specClash_any _ x.n x.s o2 d2 b2 k2 _ _ _ zs2 o d1 b1 k _ _ _ zs rfl Q0.out.draw hlen3 rfl Q1.out.draw hlen).mono ?_; rintro e wC ⟨he, hbC0⟩; rw [hmm] at he; subst he; have hbC : Below wr.heap.size wr wC := (Below.refl wr.heap.size wr).drew.trans hbC0))
            have HB := hidden (Below.andThen B hbC)
            go_wp2
            go_ret
            exact ⟨ret_bool (by rw [HF.out]; rfl), HB.out⟩
        · obtain rfl : i = m := by omega
          have HF : Hid (freeD x.n x.s js ws i (o, d1, b1, k, zs) = true) := by unfold Hid freeD; rw [HN.out, ht]; rfl
          clear ht z0 z1 z2 z3 z4 Q1
          by_cases q1 : js.length < 4
          · by_cases q2 : na + js.length < 8
            · have e2 : Hid (decide ((nu : Int) + (js.length : Int) < 400) = decide (nu + js.length < 400)) := by unfold Hid; rw [decide_eq_decide]; omega
              have e : Hid (∀ b : Bool, (decide (js.length < 4) && (decide (na + js.length < 8) && b)) = b) := fun b => by simp [q1, q2]
              go_wp2
              go_ret
              exact ⟨ret_bool (by rw [HF.out, e.out, e2.out, Bool.true_and]), B⟩
            · have e : Hid ((decide (js.length < 4) && (decide (na + js.length < 8) && decide (nu + js.length < 400))) = false) := by unfold Hid; rw [decide_eq_false q2]; simp
              go_wp2
              go_ret
              exact ⟨ret_bool (by first | rfl | rw [e.out, Bool.and_false]), B⟩
          · have e : Hid ((decide (js.length < 4) && (decide (na + js.length < 8) && decide (nu + js.length < 400))) = false) := by unfold Hid; rw [decide_eq_false q1]; rfl
            go_wp2
            go_ret
            exact ⟨ret_bool (by first | rfl | rw [e.out, Bool.and_false]), B⟩

set_option maxRecDepth 20000 in
set_option maxHeartbeats 3200000 in
theorem specCanBegin_any (w : World) (cs : Array Value) (e : EngD) (k : Int) (h : EngRd w cs e) (hw : wtEng e ≤ 1048576) :
    Calls Tryz.prog 34 #[.agg cs, .int .i64 k] w fun e' w' => e' = .returned (.bool (canB e k)) ∧ Below w.heap.size w w' := by
  obtain ⟨x, ms, ds, ws, js, an, ts⟩ := e
  obtain ⟨am, cm, ad, cd, aw, cw, aj, cj, aa, ca, au, cu, rfl, r0, r1, r2, r3, r4, r5⟩ := h.parts
  have HT : wtArr ms ds + wttCmdS ws + wttJobS js + wttAnsS an + wttTurnS ts ≤ 1048576 := hw
  have hwl : ws.length ≤ 1048576 := by have : wttCmdS ws = ws.length + sumL (ws.map fun x => x.2.2.2.2.length) := rfl; omega
  have hal : an.length ≤ 1048576 := by have : wttAnsS an = an.length + sumL (an.map fun x => x.2.2.length) := rfl; omega
  have htl : ts.length ≤ 1048576 := by have : wttTurnS ts = ts.length + sumL (ts.map wTurn) := rfl; omega
  have HE : Hid (canB ⟨x, ms, ds, ws, js, an, ts⟩ k = (engB ⟨x, ms, ds, ws, js, an, ts⟩ && (inB k 0 ((ws.length : Int) - 1) && ((decide (js.length < 4) && (decide (an.length + js.length < 8) && decide (ts.length + js.length < 400))) && freeB ⟨x, ms, ds, ws, js, an, ts⟩ k.toNat)))) := rfl
  generalize canB ⟨x, ms, ds, ws, js, an, ts⟩ k = R at HE ⊢
  have SL : (Tryz.prog.info? 35).map (·.size) = some (engC x (.slice am ms.length cm) (.slice ad ds.length cd) (.slice aw ws.length cw) (.slice aj js.length cj) (.slice aa an.length ca) (.slice au ts.length cu)).size := Tryz.sizeEng
  have HH := hidden h
  clear h
  go_enter Tryz.func34, Tryz.ntmps34
  go_wp2_with (first | (refine wpList_load_box rfl _ _ rfl rfl (Box.new _ _ _) _ Tryz.underlying35 rfl SL ?_) | fail)
  refine seal_new ?_
  intro V A B
  refine (specEngOk_any _ _ _ (HH.out.below B) hw).mono ?_
  rintro e1 w1 ⟨rfl, b⟩
  have A := A.below b A.lt
  have B := Below.andThen B b
  have k13 : w1.cell? ⟨w.heap.size, 13, none⟩ = some (.slice aw ws.length cw) := A.cell 13
  clear b
  cases hE : engB ⟨x, ms, ds, ws, js, an, ts⟩
  · have HR : Hid (R = false) := by unfold Hid; rw [HE.out, hE]; rfl
    clear hE
    go_wp2
    go_ret
    exact ⟨ret_bool HR.out.symm, B⟩
  rw [hE] at HE
  clear hE
  have hwr : IntKind.i64.wrap ((ws.length : Int) - 1) = (ws.length : Int) - 1 := IntWalk.i64_in _ (by omega)
  go_wp2_with fail
  refine (l1In_any _ _ _ _).mono ?_
  rintro e2 w2 ⟨rfl, rfl⟩
  cases hI : inB k 0 ((ws.length : Int) - 1)
  · have HR : Hid (R = false) := by unfold Hid; rw [HE.out, hI]; rfl
    clear hI
    go_wp2
    go_ret
    exact ⟨ret_bool HR.out.symm, B⟩
  rw [hI] at HE
  rw [inB_iff] at hI
  obtain ⟨m, rfl⟩ : ∃ m : Nat, k = (m : Int) := ⟨k.toNat, by omega⟩
  have hm : m < ws.length := by omega
  clear hI
  clear k13 SL
  obtain ⟨k0, k1, k2, k3, k4, k5, k6, k7, k8, k9, k10, k11, k12, k13, k14, k15, k16⟩ := A.cells17
  go_wp2_with fail
  obtain ⟨c, hc⟩ : ∃ c, ws[m]? = some c := ⟨_, List.getElem?_eq_getElem hm⟩
  refine (l15Can_any _ x _ _ aw aj aa au cw cj an.length ca ts.length cu ws js m c hc (r2.below B) (r3.below B) (by omega) hal htl).mono ?_
  rintro e4 w4 ⟨rfl, b⟩
  have HR : Hid (R = (freeD x.n x.s js ws m c && (decide (js.length < 4) && (decide (an.length + js.length < 8) && decide (ts.length + js.length < 400))))) := by
    unfold Hid
    have hf : freeB ⟨x, ms, ds, ws, js, an, ts⟩ m = freeD x.n x.s js ws m c := freeB_eq hc
    rw [HE.out, Int.toNat_natCast, hf, Bool.true_and, Bool.true_and, Bool.and_comm]
  have B := Below.andThen B b
  clear HE hc
  go_wp2
  go_ret
  exact ⟨ret_bool HR.out.symm, B⟩

end Go.Proofs.YtbkkjfgjlapadaaGreat

/-
  The walk of Begin (spec.Begin). Condition: the engine weighs at most 1048576.
-/
namespace Go.Proofs.YtbkkjfgjlapadaaGreat
open Go.RowKit

set_option maxRecDepth 20000 in
set_option maxHeartbeats 6400000 in
theorem specBegin_bent (w : World) (cs : Array Value) (e : EngD) (k : Int) (h : EngRd w cs e) (hw : wtEng e ≤ 1048576) (hE : canB e k = false) :
    Calls Tryz.prog 21 #[.agg cs, .int .i64 k] w fun e' w' => ∃ cs', e' = .returned (.tuple #[.agg cs', .bool (canB e k)]) ∧ EngOwn w' w.heap.size w'.heap.size cs' (begE e k) ∧ Below w.heap.size w w' := by
  obtain ⟨x, ms, ds, ws, js, an, ts⟩ := e
  obtain ⟨am, cm, ad, cd, aw, cw, aj, cj, aa, ca, au, cu, rfl, r0, r1, r2, r3, r4, r5⟩ := h.parts
  clear r0 r1 r2 r3 r4 r5
  have SL : (Tryz.prog.info? 35).map (·.size) = some (engC x (.slice am ms.length cm) (.slice ad ds.length cd) (.slice aw ws.length cw) (.slice aj js.length cj) (.slice aa an.length ca) (.slice au ts.length cu)).size := Tryz.sizeEng
  have HH := hidden h
  clear h
  go_enter Tryz.func21, Tryz.ntmps21
  go_wp2_with (first | (refine wpList_load_box rfl _ _ rfl rfl ((Box.new _ _ _).alloc _) _ Tryz.underlying35 rfl SL ?_) | fail)
  refine seal_new2 ?_
  intro V A R B
  have lA := A.lt
  have lR := R.lt
  refine (l15Copy_any _ _ _ (HH.out.below B) (by omega)).mono ?_
  rintro e1 w1 ⟨c1, rfl, O, b1⟩
  obtain ⟨vm, vd, vw, vj, va, vu, f0, f1, f2, f3, f4, f5, rfl, P⟩ := O.split
  obtain ⟨bm, em, rfl⟩ := row_shape P.m0.rd
  obtain ⟨bd, ed, rfl⟩ := row_shape P.m1.rd
  obtain ⟨bw, ew, rfl⟩ := row_shape P.m2.rd
  obtain ⟨bj, ej, rfl⟩ := row_shape P.m3.rd
  obtain ⟨bn, en, rfl⟩ := row_shape P.m4.rd
  obtain ⟨bu, eu, rfl⟩ := row_shape P.m5.rd
  have P := hidden P
  have SZ : (Tryz.prog.info? 35).map (·.size) = some (engC x (.slice bm ms.length em) (.slice bd ds.length ed) (.slice bw ws.length ew) (.slice bj js.length ej) (.slice bn an.length en) (.slice bu ts.length eu)).size := Tryz.sizeEng
  have A := A.below b1 A.lt
  have R := R.below b1 R.lt
  have B := Below.andThen B b1
  have z1 := b1.size
  clear b1
  go_wp2_with (first | (refine wpList_store_new rfl _ _ _ rfl rfl rfl rfl SZ (by rfl) ?_; intro V2 W b2; have A := A.below b2 A.lt) | (refine wpList_load_box rfl _ _ rfl rfl A _ Tryz.underlying35 rfl SL ?_) | fail)
  have R := R.below b2 R.lt
  have B := Below.andThen B b2
  have O := O.below b2
  have P := hidden (P.out.turned (Turned.ofBelow b2 []) (by simp))
  have lW := W.lt
  have z2 := b2.size
  clear b2
  refine (specCanBegin_any _ _ _ k (HH.out.below B) hw).mono ?_
  rintro e3 w3 ⟨rfl, b3⟩
  have R := R.below b3 R.lt
  have W := W.below b3 W.lt
  have B := Below.andThen B b3
  have O := O.below b3
  have P := hidden (P.out.turned (Turned.ofBelow b3 []) (by simp))
  have z3 := b3.size
  clear b3 A
  rw [hE]
  clear P
  have W : Box w3 w1.heap.size 35 #[.int .i64 x.id, .int .i64 x.n, .int .i64 x.s, .slice bm ms.length em, .int .i64 x.lost, .int .i64 x.built, .int .i64 x.seq, .int .i64 x.tail, .int .i64 x.gen, .slice bd ds.length ed, .int .i64 x.fuse, .bool x.down, .bool x.broken, .slice bw ws.length ew, .slice bj js.length ej, .slice bn an.length en, .slice bu ts.length eu] := W
  have SZ : (Tryz.prog.info? 35).map (·.size) = some (#[.int .i64 x.id, .int .i64 x.n, .int .i64 x.s, .slice bm ms.length em, .int .i64 x.lost, .int .i64 x.built, .int .i64 x.seq, .int .i64 x.tail, .int .i64 x.gen, .slice bd ds.length ed, .int .i64 x.fuse, .bool x.down, .bool x.broken, .slice bw ws.length ew, .slice bj js.length ej, .slice bn an.length en, .slice bu ts.length eu] : Array Value).size := Tryz.sizeEng
  have O : EngOwn w3 V.heap.size w1.heap.size #[.int .i64 x.id, .int .i64 x.n, .int .i64 x.s, .slice bm ms.length em, .int .i64 x.lost, .int .i64 x.built, .int .i64 x.seq, .int .i64 x.tail, .int .i64 x.gen, .slice bd ds.length ed, .int .i64 x.fuse, .bool x.down, .bool x.broken, .slice bw ws.length ew, .slice bj js.length ej, .slice bn an.length en, .slice bu ts.length eu] ⟨x, ms, ds, ws, js, an, ts⟩ := O
  go_wp2_with (first | (refine wpList_load_box rfl _ _ rfl rfl W _ Tryz.underlying35 rfl SZ ?_) | (refine wpList_store_box rfl _ _ _ rfl rfl rfl R rfl SZ (by rfl) ?_; intro V4 X hb hs; obtain ⟨x0, x1, x2, x3, x4, x5, x6, x7, x8, x9, x10, x11, x12, x13, x14, x15, x16⟩ := X.cells17; have KB := hidden (Below.andBut B hb (by omega)); have KO := hidden ((O.but hb (by omega)).widen (show w.heap.size ≤ V.heap.size by omega) (show w1.heap.size ≤ V4.heap.size by omega)); clear hb) | fail)
  refine bodyPost_ret (v := .tuple #[.agg #[.int .i64 x.id, .int .i64 x.n, .int .i64 x.s, .slice bm ms.length em, .int .i64 x.lost, .int .i64 x.built, .int .i64 x.seq, .int .i64 x.tail, .int .i64 x.gen, .slice bd ds.length ed, .int .i64 x.fuse, .bool x.down, .bool x.broken, .slice bw ws.length ew, .slice bj js.length ej, .slice bn an.length en, .slice bu ts.length eu], .bool false]) (by simp [results, Tryz.results21, go_sem, x0, x1, x2, x3, x4, x5, x6, x7, x8, x9, x10, x11, x12, x13, x14, x15, x16]) rfl ?_
  have hG : begE ⟨x, ms, ds, ws, js, an, ts⟩ k = ⟨x, ms, ds, ws, js, an, ts⟩ := by unfold begE; rw [hE]; rfl
  exact ⟨_, by rw [hE], by rw [hG]; exact KO.out, KB.out⟩

set_option maxRecDepth 20000 in
set_option maxHeartbeats 6400000 in
theorem specBegin_good (w : World) (cs : Array Value) (e : EngD) (k : Int) (h : EngRd w cs e) (hw : wtEng e ≤ 1048576) (hE : canB e k = true) :
    Calls Tryz.prog 21 #[.agg cs, .int .i64 k] w fun e' w' => ∃ cs', e' = .returned (.tuple #[.agg cs', .bool (canB e k)]) ∧ EngOwn w' w.heap.size w'.heap.size cs' (begE e k) ∧ Below w.heap.size w w' := by
  obtain ⟨x, ms, ds, ws, js, an, ts⟩ := e
  obtain ⟨am, cm, ad, cd, aw, cw, aj, cj, aa, ca, au, cu, rfl, r0, r1, r2, r3, r4, r5⟩ := h.parts
  clear r0 r1 r2 r3 r4 r5
  have SL : (Tryz.prog.info? 35).map (·.size) = some (engC x (.slice am ms.length cm) (.slice ad ds.length cd) (.slice aw ws.length cw) (.slice aj js.length cj) (.slice aa an.length ca) (.slice au ts.length cu)).size := Tryz.sizeEng
  have HH := hidden h
  clear h
  go_enter Tryz.func21, Tryz.ntmps21
  go_wp2_with (first | (refine wpList_load_box rfl _ _ rfl rfl ((Box.new _ _ _).alloc _) _ Tryz.underlying35 rfl SL ?_) | fail)
  refine seal_new2 ?_
  intro V A R B
  have lA := A.lt
  have lR := R.lt
  refine (l15Copy_any _ _ _ (HH.out.below B) (by omega)).mono ?_
  rintro e1 w1 ⟨c1, rfl, O, b1⟩
  obtain ⟨vm, vd, vw, vj, va, vu, f0, f1, f2, f3, f4, f5, rfl, P⟩ := O.split
  obtain ⟨bm, em, rfl⟩ := row_shape P.m0.rd
  obtain ⟨bd, ed, rfl⟩ := row_shape P.m1.rd
  obtain ⟨bw, ew, rfl⟩ := row_shape P.m2.rd
  obtain ⟨bj, ej, rfl⟩ := row_shape P.m3.rd
  obtain ⟨bn, en, rfl⟩ := row_shape P.m4.rd
  obtain ⟨bu, eu, rfl⟩ := row_shape P.m5.rd
  have P := hidden P
  have SZ : (Tryz.prog.info? 35).map (·.size) = some (engC x (.slice bm ms.length em) (.slice bd ds.length ed) (.slice bw ws.length ew) (.slice bj js.length ej) (.slice bn an.length en) (.slice bu ts.length eu)).size := Tryz.sizeEng
  have A := A.below b1 A.lt
  have R := R.below b1 R.lt
  have B := Below.andThen B b1
  have z1 := b1.size
  clear b1
  go_wp2_with (first | (refine wpList_store_new rfl _ _ _ rfl rfl rfl rfl SZ (by rfl) ?_; intro V2 W b2; have A := A.below b2 A.lt) | (refine wpList_load_box rfl _ _ rfl rfl A _ Tryz.underlying35 rfl SL ?_) | fail)
  have R := R.below b2 R.lt
  have B := Below.andThen B b2
  have O := O.below b2
  have P := hidden (P.out.turned (Turned.ofBelow b2 []) (by simp))
  have lW := W.lt
  have z2 := b2.size
  clear b2
  refine (specCanBegin_any _ _ _ k (HH.out.below B) hw).mono ?_
  rintro e3 w3 ⟨rfl, b3⟩
  have R := R.below b3 R.lt
  have W := W.below b3 W.lt
  have B := Below.andThen B b3
  have O := O.below b3
  have P := hidden (P.out.turned (Turned.ofBelow b3 []) (by simp))
  have z3 := b3.size
  clear b3 A
  rw [hE]
  clear SL SZ O
  obtain ⟨m, rfl, hm⟩ := can_at hE
  replace hm : m < ws.length := hm
  obtain ⟨o, d, b, n, zs, hk⟩ : ∃ o d b n zs, ws[m]? = some (o, d, b, n, zs) := ⟨_, _, _, _, _, List.getElem?_eq_getElem hm⟩
  have hG : begE ⟨x, ms, ds, ws, js, an, ts⟩ (m : Int) = begC ⟨x, ms, ds, ws, js, an, ts⟩ m (o, d, b, n, zs) := by
    unfold begE
    rw [hE, Int.toNat_natCast]
    simp only [hk, if_true]
  have lR := R.lt
  have hat : EngAt w3 w1.heap.size V.heap.size ⟨x, ms, ds, ws, js, an, ts⟩ (f0 ++ (f1 ++ (f2 ++ (f3 ++ (f4 ++ f5))))) := ⟨_, _, _, _, _, _, f0, f1, f2, f3, f4, f5, rfl, W, P.out.widen (by omega), fun h => by have := P.out.r _ (mem_six.1 h); omega⟩
  have hFr : ∀ y ∈ w1.heap.size :: (f0 ++ (f1 ++ (f2 ++ (f3 ++ (f4 ++ f5))))), V.heap.size ≤ y := fun y hy => by
    rcases List.mem_cons.1 hy with h | h
    · omega
    · exact (P.out.r y (mem_six.1 h)).1
  have HG := hidden hG
  have HA := hidden hat
  have HFr := hidden hFr
  have HK := hidden hk
  clear hG hat hFr hk P W HH
  go_wp2_with fail
  refine (l15Begin_any _ w1.heap.size V.heap.size ⟨x, ms, ds, ws, js, an, ts⟩ _ m o d b n zs HA.out (by omega) (by omega) HK.out hw).mono ?_
  rintro e4 w4 ⟨rfl, ⟨F', hAt⟩, T4⟩
  obtain ⟨y, hy⟩ : ∃ y, begC ⟨x, ms, ds, ws, js, an, ts⟩ m (o, d, b, n, zs) = y := ⟨_, rfl⟩
  rw [hy] at hAt
  have HY := hidden hy
  clear hy
  obtain ⟨vm, vd, vw, vj, va, vu, p0, p1, p2, p3, p4, p5, rfl, X4, P4, _⟩ := hAt
  have hnR : w.heap.size + 1 ∉ w1.heap.size :: (f0 ++ (f1 ++ (f2 ++ (f3 ++ (f4 ++ f5))))) := fun h => by have := HFr.out _ h; omega
  have R := R.kept (T4.block _ lR hnR)
  have B := B.trans (T4.below (N := w.heap.size) (by have := B.size; omega) (fun y hy => by have := HFr.out y hy; omega))
  have X4 : Box w4 w1.heap.size 35 #[.int .i64 y.x.id, .int .i64 y.x.n, .int .i64 y.x.s, vm, .int .i64 y.x.lost, .int .i64 y.x.built, .int .i64 y.x.seq, .int .i64 y.x.tail, .int .i64 y.x.gen, vd, .int .i64 y.x.fuse, .bool y.x.down, .bool y.x.broken, vw, vj, va, vu] := X4
  have SN : (Tryz.prog.info? 35).map (·.size) = some (#[.int .i64 y.x.id, .int .i64 y.x.n, .int .i64 y.x.s, vm, .int .i64 y.x.lost, .int .i64 y.x.built, .int .i64 y.x.seq, .int .i64 y.x.tail, .int .i64 y.x.gen, vd, .int .i64 y.x.fuse, .bool y.x.down, .bool y.x.broken, vw, vj, va, vu] : Array Value).size := Tryz.sizeEng
  have hV4 : ([.int .i64 y.x.id, .int .i64 y.x.n, .int .i64 y.x.s, vm, .int .i64 y.x.lost, .int .i64 y.x.built, .int .i64 y.x.seq, .int .i64 y.x.tail, .int .i64 y.x.gen, vd, .int .i64 y.x.fuse, .bool y.x.down, .bool y.x.broken, vw, vj, va, vu] : List Value).all (·.oneCell') = true := by
    have := P4.own.rd.one
    exact this
  have KP : EngOwn w4 V.heap.size w4.heap.size #[.int .i64 y.x.id, .int .i64 y.x.n, .int .i64 y.x.s, vm, .int .i64 y.x.lost, .int .i64 y.x.built, .int .i64 y.x.seq, .int .i64 y.x.tail, .int .i64 y.x.gen, vd, .int .i64 y.x.fuse, .bool y.x.down, .bool y.x.broken, vw, vj, va, vu] y := P4.own
  have z4 := T4.size
  clear T4 P4 hnR HA HFr HK
  go_wp2_with (first | (refine wpList_load_box rfl _ _ rfl rfl X4 _ Tryz.underlying35 rfl SN ?_) | (refine wpList_store_box rfl _ _ _ rfl rfl rfl R rfl SN hV4 ?_; intro V5 X hb hs; obtain ⟨x0, x1, x2, x3, x4, x5, x6, x7, x8, x9, x10, x11, x12, x13, x14, x15, x16⟩ := X.cells17; have KB := hidden (Below.andBut B hb (by omega)); have KO := hidden ((KP.but hb (by omega)).widen (show w.heap.size ≤ V.heap.size by omega) (show w4.heap.size ≤ V5.heap.size by omega)); clear hb) | fail)
  refine bodyPost_ret (v := .tuple #[.agg #[.int .i64 y.x.id, .int .i64 y.x.n, .int .i64 y.x.s, vm, .int .i64 y.x.lost, .int .i64 y.x.built, .int .i64 y.x.seq, .int .i64 y.x.tail, .int .i64 y.x.gen, vd, .int .i64 y.x.fuse, .bool y.x.down, .bool y.x.broken, vw, vj, va, vu], .bool true]) (by simp [results, Tryz.results21, go_sem, x0, x1, x2, x3, x4, x5, x6, x7, x8, x9, x10, x11, x12, x13, x14, x15, x16]) rfl ?_
  exact ⟨_, by rw [hE], by rw [HG.out, HY.out]; exact KO.out, KB.out⟩

theorem specBegin_any (w : World) (cs : Array Value) (e : EngD) (k : Int) (h : EngRd w cs e) (hw : wtEng e ≤ 1048576) :
    Calls Tryz.prog 21 #[.agg cs, .int .i64 k] w fun e' w' => ∃ cs', e' = .returned (.tuple #[.agg cs', .bool (canB e k)]) ∧ EngOwn w' w.heap.size w'.heap.size cs' (begE e k) ∧ Below w.heap.size w w' := by
  cases hE : canB e k
  · rw [← hE]
    exact specBegin_bent w cs e k h hw hE
  · rw [← hE]
    exact specBegin_good w cs e k h hw hE

end Go.Proofs.YtbkkjfgjlapadaaGreat

/-
  The laws' marks over slices of jobs and of turns, and whether they are held; the latter over slices of commands. Conditions: they weigh at most 2097152, marks between 0 and 16777216.
-/
namespace Go.Proofs.YtbkkjfgjlapadaaGreat
open Go.RowKit

def cntJob (x : JobD) : Nat := 6 + (x.2.2.2.2.1.length + x.2.2.2.2.2.2.1.length)
def markJob1 (k : Int) (x : JobD) : JobD := (k, k + 1, k + 1 + 1, k + 1 + 1 + 1, marks id (k + 1 + 1 + 1 + 1) x.2.2.2.2.1.length, k + 1 + 1 + 1 + 1 + (x.2.2.2.2.1.length : Int), marks id (k + 1 + 1 + 1 + 1 + (x.2.2.2.2.1.length : Int) + 1) x.2.2.2.2.2.2.1.length, k + 1 + 1 + 1 + 1 + (x.2.2.2.2.1.length : Int) + 1 + (x.2.2.2.2.2.2.1.length : Int))
def marktJobS (k0 : Int) (d : List JobD) : List JobD := markL cntJob markJob1 k0 d
def cnttJobS (d : List JobD) : Nat := sumL (d.map cntJob)
theorem cnttJobS_le (d : List JobD) : cnttJobS d ≤ 6 * wttJobS d := by
  unfold cnttJobS wttJobS
  induction d with
  | nil => simp [sumL]
  | cons x d ih =>
    simp only [List.map_cons, sumL, List.foldr_cons, List.length_cons] at *
    unfold cntJob wJob at *
    omega

set_option maxHeartbeats 3200000 in
theorem markJobS_fp (w : World) (a : Option Addr) (n cap : Nat) (d : List JobD) (k0 : Int) (fp : List Nat) (h : (tJobS 92).Mine w [.slice a n cap] d fp) (hw : wttJobS d ≤ 2097152) (hk : 0 ≤ k0) (hk' : k0 + (cnttJobS d : Int) ≤ 16777216) :
    Calls Tryz.prog 102 #[.slice a n cap, .int .i64 k0] w fun e w' => e = .returned (.int .i64 (k0 + (cnttJobS d : Int))) ∧ (tJobS 92).Mine w' [.slice a n cap] (marktJobS k0 d) fp ∧ Turned fp w w' := by
  obtain ⟨hl, hc, hm⟩ := row_length h.rd
  have hmL : (marktJobS k0 d).length = d.length := markL_length _ _ _ _
  have hnn : n ≤ 2097152 := by unfold wttJobS at hw; omega
  go_enter Tryz.func102, Tryz.ntmps102
  go_wp2
  go_loopw [1, 5] (fun kk i wr => ∃ j : Nat, j ≤ n ∧ i = .int .i64 j ∧ kk = .int .i64 (k0 + (sumL ((d.map cntJob).take j) : Int)) ∧ (tJobS 92).Mine wr [.slice a n cap] ((marktJobS k0 d).take j ++ d.drop j) fp ∧ Turned fp w wr) (fun _ i _ => n - (intOf i).toNat)
  case atStart => exact ⟨0, Nat.zero_le _, rfl, by simp [sumL], by simpa using h, Turned.refl _ _⟩
  case round =>
    obtain ⟨j, hj, rfl, rfl, ho, hb⟩ := hrel
    by_cases hjn : j < n
    · obtain ⟨o, d1, b1, k, zs, t1, gs, q1, hdj⟩ : ∃ o d1 b1 k zs t1 gs q1, d[j]? = some (o, d1, b1, k, zs, t1, gs, q1) := ⟨_, _, _, _, _, _, _, _, List.getElem?_eq_getElem (by omega)⟩
      have hin := job_inner hdj
      have hlen : zs.length + gs.length ≤ 2097152 := by unfold wttJobS at hw; simp only [wJob] at hin; omega
      have hst := sumL_take (l := d.map cntJob) (j := j) (x := 6 + (zs.length + gs.length)) (by rw [List.getElem?_map, hdj]; rfl)
      have hle := sumL_le (l := d.map cntJob) (j + 1)
      unfold cnttJobS at hk'
      have HM := hidden (turn_step hmL (markL_at (c := cntJob) (mk := markJob1) (k := k0) hdj))
      have hat := turn_at (m := marktJobS k0 d) hmL hdj
      have HW := hidden hst
      generalize sumL ((d.map cntJob).take j) = S at hst HM HW
      have hS : k0 + (S : Int) + 6 + ((zs.length + gs.length : Nat) : Int) ≤ 16777216 := by omega
      rcases row_ow_shape ho with h0' | ⟨g, rfl⟩
      · omega
      obtain ⟨cs1, f1, ow, hgf, hgp, hf1, hcc, hf, _, back⟩ := row_open ho hat
      obtain ⟨v0, v1, v2, v3, v4, v5, v6, v7, rfl⟩ : ∃ v0 v1 v2 v3 v4 v5 v6 v7, cs1 = [v0, v1, v2, v3, v4, v5, v6, v7] := by
        match cs1, tJob.rdLen (tJob.owRd ow.1) with
        | [v0, v1, v2, v3, v4, v5, v6, v7], _ => exact ⟨v0, v1, v2, v3, v4, v5, v6, v7, rfl⟩
      obtain ⟨rfl, ow0⟩ := int_mine ow
      obtain ⟨rfl, ow1⟩ := int_mine ow0
      obtain ⟨rfl, ow2⟩ := int_mine ow1
      obtain ⟨rfl, ow3⟩ := int_mine ow2
      obtain ⟨av0, cv0, fa0, fb0, rfl, he0, m0, ow4, hd0⟩ := ints_mine_p ow3
      obtain ⟨rfl, ow5⟩ := int_mine ow4
      obtain ⟨av1, cv1, fa1, fb1, rfl, he1, m1, ow6, hd1⟩ := ints_mine_p ow5
      obtain ⟨rfl, hfz⟩ := int_mine1 ow6
      subst hfz he1 he0
      have hcA := hcc
      have hc0 : wr.cell? ⟨g, j * 8, none⟩ = some (.int .i64 o) := hcc 0 (by show 0 < 8; omega)
      have hc1 : wr.cell? ⟨g, j * 8 + 1, none⟩ = some (.int .i64 d1) := hcc 1 (by show 1 < 8; omega)
      have hc2 : wr.cell? ⟨g, j * 8 + 2, none⟩ = some (.int .i64 b1) := hcc 2 (by show 2 < 8; omega)
      have hc3 : wr.cell? ⟨g, j * 8 + 3, none⟩ = some (.int .i64 k) := hcc 3 (by show 3 < 8; omega)
      have hc4 : wr.cell? ⟨g, j * 8 + 4, none⟩ = some (.slice av0 zs.length cv0) := hcc 4 (by show 4 < 8; omega)
      have hc5 : wr.cell? ⟨g, j * 8 + 5, none⟩ = some (.int .i64 t1) := hcc 5 (by show 5 < 8; omega)
      have hc6 : wr.cell? ⟨g, j * 8 + 6, none⟩ = some (.slice av1 gs.length cv1) := hcc 6 (by show 6 < 8; omega)
      have hc7 : wr.cell? ⟨g, j * 8 + 7, none⟩ = some (.int .i64 q1) := hcc 7 (by show 7 < 8; omega)
      have hgl : g < wr.heap.size := ho.lt g hgp
      obtain ⟨cur0, hcur⟩ := mine_block ho
      have HBK := hidden back
      have HLT := hidden ho.lt
      have hg0 : g ∉ fa0 := fun hm => hgf (by simp [hm])
      have hg1 : g ∉ fa1 := fun hm => hgf (by simp [hm])
      have hd : ∀ b ∈ fa0, b ∉ fa1 := fun b hb hm => hd0 b hb (by simp [hm])
      have HCC := hidden hcA
      clear hcc hcA back ow ow0 ow1 ow2 ow3 ow4 ow5 ow6 hat hdj ho hst hin
      go_wp2_with fail
      have E := (((((Ed.refl wr g (j * 8)).set 0 (.int .i64 (k0 + (S : Int)))).set 1 (.int .i64 (k0 + (S : Int) + 1))).set 2 (.int .i64 (k0 + (S : Int) + 1 + 1))).set 3 (.int .i64 (k0 + (S : Int) + 1 + 1 + 1)))
      refine (markIntS_fp _ _ _ _ zs _ fa0 (m0.kept E.turned (by intro b hb hm; simp at hm; exact hg0 (hm ▸ hb))) (by omega) (by omega) (by omega)).mono ?_
      rintro e w2 ⟨rfl, o0, tt0⟩
      have E := E.then tt0 hg0
      have hc5 := (E.cellAt 5 hcur (by simp)).trans (HCC.out 5 (by show 5 < 8; omega))
      have hc6 := (E.cellAt 6 hcur (by simp)).trans (HCC.out 6 (by show 6 < 8; omega))
      have hc7 := (E.cellAt 7 hcur (by simp)).trans (HCC.out 7 (by show 7 < 8; omega))
      have hf := E.free hcur
      go_wp2_with fail
      have E := (E.set 5 (.int .i64 (k0 + (S : Int) + 1 + 1 + 1 + 1 + (zs.length : Int))))
      refine (markIntS_fp _ _ _ _ gs _ fa1 (m1.kept E.turned (by intro b hb hm; simp at hm; rcases hm with e | hm; exact hg1 (e ▸ hb); exact hd b hm hb)) (by omega) (by omega) (by omega)).mono ?_
      rintro e w3 ⟨rfl, o1, tt1⟩
      have E := E.then tt1 hg1
      have hc7 := (E.cellAt 7 hcur (by simp)).trans (HCC.out 7 (by show 7 < 8; omega))
      have hf := E.free hcur
      have E := (E.set 7 (.int .i64 (k0 + (S : Int) + 1 + 1 + 1 + 1 + (zs.length : Int) + 1 + (gs.length : Int))))
      have G := ((((Ed.refl w2 g (j * 8)).set 5 (.int .i64 (k0 + (S : Int) + 1 + 1 + 1 + 1 + (zs.length : Int)))).then tt1 hg1).set 7 (.int .i64 (k0 + (S : Int) + 1 + 1 + 1 + 1 + (zs.length : Int) + 1 + (gs.length : Int))))
      have p0 := o0.kept G.turned (by intro b hb hm; simp at hm; rcases hm with e | hm; exact hg0 (e ▸ hb); exact hd b hb hm)
      have H := ((Ed.refl w3 g (j * 8)).set 7 (.int .i64 (k0 + (S : Int) + 1 + 1 + 1 + 1 + (zs.length : Int) + 1 + (gs.length : Int))))
      have p1 := o1.kept H.turned (by intro b hb hm; simp at hm; exact hg1 (hm ▸ hb))
      have hdd0 : ∀ b ∈ fa0, b ∉ fa1 ++ [] := hd0
      have hdd1 : ∀ b ∈ fa1, b ∉ ([] : List Nat) := by simp
      have hO := HBK.out _ [.int .i64 (k0 + (S : Int)), .int .i64 (k0 + (S : Int) + 1), .int .i64 (k0 + (S : Int) + 1 + 1), .int .i64 (k0 + (S : Int) + 1 + 1 + 1), .slice av0 zs.length cv0, .int .i64 (k0 + (S : Int) + 1 + 1 + 1 + 1 + (zs.length : Int)), .slice av1 gs.length cv1, .int .i64 (k0 + (S : Int) + 1 + 1 + 1 + 1 + (zs.length : Int) + 1 + (gs.length : Int))] (k0 + (S : Int), k0 + (S : Int) + 1, k0 + (S : Int) + 1 + 1, k0 + (S : Int) + 1 + 1 + 1, marks id (k0 + (S : Int) + 1 + 1 + 1 + 1) zs.length, k0 + (S : Int) + 1 + 1 + 1 + 1 + (zs.length : Int), marks id (k0 + (S : Int) + 1 + 1 + 1 + 1 + (zs.length : Int) + 1) gs.length, k0 + (S : Int) + 1 + 1 + 1 + 1 + (zs.length : Int) + 1 + (gs.length : Int)) (int_mine_of (int_mine_of (int_mine_of (int_mine_of (ints_mine_of p0 (int_mine_of (ints_mine_of p1 int_mine1_of hdd1)) hdd0)))))
        (fun b hb hbf hbg => E.turned.block b (HLT.out b hb) (by simp at hbf ⊢; exact ⟨hbg, hbf.2, hbf.1⟩)) E.turned.size
        (ed_back (n := 8) E HCC.out hjn rfl)
      have e2 : markJob1 (k0 + (S : Int)) (o, d1, b1, k, zs, t1, gs, q1) = (k0 + (S : Int), k0 + (S : Int) + 1, k0 + (S : Int) + 1 + 1, k0 + (S : Int) + 1 + 1 + 1, marks id (k0 + (S : Int) + 1 + 1 + 1 + 1) zs.length, k0 + (S : Int) + 1 + 1 + 1 + 1 + (zs.length : Int), marks id (k0 + (S : Int) + 1 + 1 + 1 + 1 + (zs.length : Int) + 1) gs.length, k0 + (S : Int) + 1 + 1 + 1 + 1 + (zs.length : Int) + 1 + (gs.length : Int)) := rfl
      rw [← e2, HM.out] at hO
      have HO := hidden hO
      have HB := hidden (hb.trans (E.turned.mono (by intro b hb'; simp at hb'; rcases hb' with e | hb'; exact e ▸ hgp; exact hf1 b (by simp; rcases hb' with h | h <;> simp [h]))))
      clear hO e2 HBK HLT HCC E G H p0 p1 hb o0 o1
      go_wp2
      go_roundw
      case rel => exact ⟨j + 1, by omega, by go_num, by rw [HW.out]; go_num, HO.out, HB.out⟩
      case measure => simp [intOf]; omega
    · go_wp2
      go_ret
      obtain rfl : j = n := by omega
      have ht : (d.map cntJob).take j = d.map cntJob := List.take_of_length_le (by simp; omega)
      rw [List.take_of_length_le (by omega), List.drop_of_length_le (by omega), List.append_nil] at ho
      exact ⟨ret_int (by rw [ht]; rfl), ho, hb⟩

set_option maxRecDepth 20000 in
set_option maxHeartbeats 1600000 in
theorem heldJobS_any (w : World) (E : TypeId) (a : Option Addr) (n cap : Nat) (d : List JobD) (k0 : Int) (h : (tJobS E).Rd w [.slice a n cap] (marktJobS k0 d)) (hw : wttJobS d ≤ 2097152) (hk : 0 ≤ k0) (hk' : k0 + (cnttJobS d : Int) ≤ 16777216) :
    Calls Tryz.prog 108 #[.slice a n cap, .int .i64 k0] w fun e w' => e = .returned (.int .i64 (k0 + (cnttJobS d : Int))) ∧ Same w w' := by
  obtain ⟨hl, hc, hm⟩ := row_length h
  have hmL : (marktJobS k0 d).length = d.length := markL_length _ _ _ _
  rw [hmL] at hl
  have hn : n ≤ 2097152 := by unfold wttJobS at hw; omega
  go_enter Tryz.func108, Tryz.ntmps108
  go_wp2
  go_loopw [1, 5] (fun kk i wr => ∃ j : Nat, j ≤ n ∧ i = .int .i64 j ∧ kk = .int .i64 (k0 + (sumL ((d.map cntJob).take j) : Int)) ∧ Same w wr) (fun _ i _ => n - (intOf i).toNat)
  case atStart => exact ⟨0, Nat.zero_le _, rfl, by simp [sumL], Same.refl _⟩
  case round =>
    obtain ⟨j, hj, rfl, rfl, hs⟩ := hrel
    by_cases hjn : j < n
    · obtain ⟨o, d1, b1, k, zs, t1, gs, q1, hdj⟩ : ∃ o d1 b1 k zs t1 gs q1, d[j]? = some (o, d1, b1, k, zs, t1, gs, q1) := ⟨_, _, _, _, _, _, _, _, List.getElem?_eq_getElem (by omega)⟩
      have hin := job_inner hdj
      have hlen : zs.length + gs.length ≤ 2097152 := by unfold wttJobS at hw; simp only [wJob] at hin; omega
      have hst := sumL_take (l := d.map cntJob) (j := j) (x := 6 + (zs.length + gs.length)) (by rw [List.getElem?_map, hdj]; rfl)
      have hle := sumL_le (l := d.map cntJob) (j + 1)
      unfold cnttJobS at hk'
      rcases jobS_at (h.same hs) with h0' | ⟨b, off, rfl, hbl, hcs⟩
      · omega
      obtain ⟨av0, cv0, av1, cv1, hc0, hc1, hc2, hc3, hc4, hc5, hc6, hc7, hr0, hr1⟩ := hcs j _ _ _ _ _ _ _ _ (markL_at (c := cntJob) (mk := markJob1) (k := k0) hdj)
      have HW := hidden hst
      simp only [marks_length] at hc0 hc1 hc2 hc3 hc4 hc5 hc6 hc7 hr0 hr1
      generalize sumL ((d.map cntJob).take j) = S at hst HW hc0 hc1 hc2 hc3 hc4 hc5 hc6 hc7 hr0 hr1
      clear hcs hdj hin
      go_wp2_with fail
      refine (heldIntS_any _ _ _ _ _ (ints_rd hr0).1 (by omega) (by omega) (by omega)).mono ?_
      rintro e w2 ⟨rfl, hs2⟩
      have hc5 := (hs2.cell _).trans hc5
      have hc6 := (hs2.cell _).trans hc6
      have hc7 := (hs2.cell _).trans hc7
      go_wp2_with fail
      refine (heldIntS_any _ _ _ _ _ (ints_rd (hr1.same hs2)).1 (by omega) (by omega) (by omega)).mono ?_
      rintro e w3 ⟨rfl, hs3⟩
      have hc7 := (hs3.cell _).trans hc7
      have HS := hidden ((hs.trans hs2).trans hs3)
      clear hs hs2 hs3
      go_wp2
      go_roundw
      case rel => exact ⟨j + 1, by omega, by go_num, by rw [HW.out]; go_num, HS.out⟩
      case measure => simp [intOf]; omega
    · go_wp2
      go_ret
      obtain rfl : j = n := by omega
      have ht : (d.map cntJob).take j = d.map cntJob := List.take_of_length_le (by simp; omega)
      exact ⟨ret_int (by rw [ht]; rfl), hs⟩

def cntTurn (x : TurnD) : Nat := 6 + (x.2.2.2.2.1.length + x.2.2.2.2.2.2.2.length)
def markTurn1 (k : Int) (x : TurnD) : TurnD := (k, k + 1, k + 1 + 1, k + 1 + 1 + 1, marks id (k + 1 + 1 + 1 + 1) x.2.2.2.2.1.length, k + 1 + 1 + 1 + 1 + (x.2.2.2.2.1.length : Int), k + 1 + 1 + 1 + 1 + (x.2.2.2.2.1.length : Int) + 1, marks id (k + 1 + 1 + 1 + 1 + (x.2.2.2.2.1.length : Int) + 1 + 1) x.2.2.2.2.2.2.2.length)
def marktTurnS (k0 : Int) (d : List TurnD) : List TurnD := markL cntTurn markTurn1 k0 d
def cnttTurnS (d : List TurnD) : Nat := sumL (d.map cntTurn)
theorem cnttTurnS_le (d : List TurnD) : cnttTurnS d ≤ 6 * wttTurnS d := by
  unfold cnttTurnS wttTurnS
  induction d with
  | nil => simp [sumL]
  | cons x d ih =>
    simp only [List.map_cons, sumL, List.foldr_cons, List.length_cons] at *
    unfold cntTurn wTurn at *
    omega

set_option maxHeartbeats 3200000 in
theorem markTurnS_fp (w : World) (a : Option Addr) (n cap : Nat) (d : List TurnD) (k0 : Int) (fp : List Nat) (h : (tTurnS 95).Mine w [.slice a n cap] d fp) (hw : wttTurnS d ≤ 2097152) (hk : 0 ≤ k0) (hk' : k0 + (cnttTurnS d : Int) ≤ 16777216) :
    Calls Tryz.prog 104 #[.slice a n cap, .int .i64 k0] w fun e w' => e = .returned (.int .i64 (k0 + (cnttTurnS d : Int))) ∧ (tTurnS 95).Mine w' [.slice a n cap] (marktTurnS k0 d) fp ∧ Turned fp w w' := by
  obtain ⟨hl, hc, hm⟩ := row_length h.rd
  have hmL : (marktTurnS k0 d).length = d.length := markL_length _ _ _ _
  have hnn : n ≤ 2097152 := by unfold wttTurnS at hw; omega
  go_enter Tryz.func104, Tryz.ntmps104
  go_wp2
  go_loopw [1, 5] (fun kk i wr => ∃ j : Nat, j ≤ n ∧ i = .int .i64 j ∧ kk = .int .i64 (k0 + (sumL ((d.map cntTurn).take j) : Int)) ∧ (tTurnS 95).Mine wr [.slice a n cap] ((marktTurnS k0 d).take j ++ d.drop j) fp ∧ Turned fp w wr) (fun _ i _ => n - (intOf i).toNat)
  case atStart => exact ⟨0, Nat.zero_le _, rfl, by simp [sumL], by simpa using h, Turned.refl _ _⟩
  case round =>
    obtain ⟨j, hj, rfl, rfl, ho, hb⟩ := hrel
    by_cases hjn : j < n
    · obtain ⟨o, d1, b1, k, zs, d2, q1, ys, hdj⟩ : ∃ o d1 b1 k zs d2 q1 ys, d[j]? = some (o, d1, b1, k, zs, d2, q1, ys) := ⟨_, _, _, _, _, _, _, _, List.getElem?_eq_getElem (by omega)⟩
      have hin := turn_inner hdj
      have hlen : zs.length + ys.length ≤ 2097152 := by unfold wttTurnS at hw; simp only [wTurn] at hin; omega
      have hst := sumL_take (l := d.map cntTurn) (j := j) (x := 6 + (zs.length + ys.length)) (by rw [List.getElem?_map, hdj]; rfl)
      have hle := sumL_le (l := d.map cntTurn) (j + 1)
      unfold cnttTurnS at hk'
      have HM := hidden (turn_step hmL (markL_at (c := cntTurn) (mk := markTurn1) (k := k0) hdj))
      have hat := turn_at (m := marktTurnS k0 d) hmL hdj
      have HW := hidden hst
      generalize sumL ((d.map cntTurn).take j) = S at hst HM HW
      have hS : k0 + (S : Int) + 6 + ((zs.length + ys.length : Nat) : Int) ≤ 16777216 := by omega
      rcases row_ow_shape ho with h0' | ⟨g, rfl⟩
      · omega
      obtain ⟨cs1, f1, ow, hgf, hgp, hf1, hcc, hf, _, back⟩ := row_open ho hat
      obtain ⟨v0, v1, v2, v3, v4, v5, v6, v7, rfl⟩ : ∃ v0 v1 v2 v3 v4 v5 v6 v7, cs1 = [v0, v1, v2, v3, v4, v5, v6, v7] := by
        match cs1, tTurn.rdLen (tTurn.owRd ow.1) with
        | [v0, v1, v2, v3, v4, v5, v6, v7], _ => exact ⟨v0, v1, v2, v3, v4, v5, v6, v7, rfl⟩
      obtain ⟨rfl, ow0⟩ := int_mine ow
      obtain ⟨rfl, ow1⟩ := int_mine ow0
      obtain ⟨rfl, ow2⟩ := int_mine ow1
      obtain ⟨rfl, ow3⟩ := int_mine ow2
      obtain ⟨av0, cv0, fa0, fb0, rfl, he0, m0, ow4, hd0⟩ := ints_mine_p ow3
      obtain ⟨rfl, ow5⟩ := int_mine ow4
      obtain ⟨rfl, ow6⟩ := int_mine ow5
      obtain ⟨av1, cv1, rfl⟩ := row_shape ow6.rd
      subst he0
      have m1 := ow6
      have hcA := hcc
      have hc0 : wr.cell? ⟨g, j * 8, none⟩ = some (.int .i64 o) := hcc 0 (by show 0 < 8; omega)
      have hc1 : wr.cell? ⟨g, j * 8 + 1, none⟩ = some (.int .i64 d1) := hcc 1 (by show 1 < 8; omega)
      have hc2 : wr.cell? ⟨g, j * 8 + 2, none⟩ = some (.int .i64 b1) := hcc 2 (by show 2 < 8; omega)
      have hc3 : wr.cell? ⟨g, j * 8 + 3, none⟩ = some (.int .i64 k) := hcc 3 (by show 3 < 8; omega)
      have hc4 : wr.cell? ⟨g, j * 8 + 4, none⟩ = some (.slice av0 zs.length cv0) := hcc 4 (by show 4 < 8; omega)
      have hc5 : wr.cell? ⟨g, j * 8 + 5, none⟩ = some (.int .i64 d2) := hcc 5 (by show 5 < 8; omega)
      have hc6 : wr.cell? ⟨g, j * 8 + 6, none⟩ = some (.int .i64 q1) := hcc 6 (by show 6 < 8; omega)
      have hc7 : wr.cell? ⟨g, j * 8 + 7, none⟩ = some (.slice av1 ys.length cv1) := hcc 7 (by show 7 < 8; omega)
      have hgl : g < wr.heap.size := ho.lt g hgp
      obtain ⟨cur0, hcur⟩ := mine_block ho
      have HBK := hidden back
      have HLT := hidden ho.lt
      have hg0 : g ∉ fa0 := fun hm => hgf (by simp [hm])
      have hg1 : g ∉ fb0 := fun hm => hgf (by simp [hm])
      have hd : ∀ b ∈ fa0, b ∉ fb0 := fun b hb hm => hd0 b hb (by simp [hm])
      have HCC := hidden hcA
      clear hcc hcA back ow ow0 ow1 ow2 ow3 ow4 ow5 ow6 hat hdj ho hst hin
      go_wp2_with fail
      have E := (((((Ed.refl wr g (j * 8)).set 0 (.int .i64 (k0 + (S : Int)))).set 1 (.int .i64 (k0 + (S : Int) + 1))).set 2 (.int .i64 (k0 + (S : Int) + 1 + 1))).set 3 (.int .i64 (k0 + (S : Int) + 1 + 1 + 1)))
      refine (markIntS_fp _ _ _ _ zs _ fa0 (m0.kept E.turned (by intro b hb hm; simp at hm; exact hg0 (hm ▸ hb))) (by omega) (by omega) (by omega)).mono ?_
      rintro e w2 ⟨rfl, o0, tt0⟩
      have E := E.then tt0 hg0
      have hc5 := (E.cellAt 5 hcur (by simp)).trans (HCC.out 5 (by show 5 < 8; omega))
      have hc6 := (E.cellAt 6 hcur (by simp)).trans (HCC.out 6 (by show 6 < 8; omega))
      have hc7 := (E.cellAt 7 hcur (by simp)).trans (HCC.out 7 (by show 7 < 8; omega))
      have hf := E.free hcur
      go_wp2_with fail
      have E := ((E.set 5 (.int .i64 (k0 + (S : Int) + 1 + 1 + 1 + 1 + (zs.length : Int)))).set 6 (.int .i64 (k0 + (S : Int) + 1 + 1 + 1 + 1 + (zs.length : Int) + 1)))
      refine (markIntS_fp _ _ _ _ ys _ fb0 (m1.kept E.turned (by intro b hb hm; simp at hm; rcases hm with e | hm; exact hg1 (e ▸ hb); exact hd b hm hb)) (by omega) (by omega) (by omega)).mono ?_
      rintro e w3 ⟨rfl, o1, tt1⟩
      have E := E.then tt1 hg1
      have hf := E.free hcur
      have G := ((((Ed.refl w2 g (j * 8)).set 5 (.int .i64 (k0 + (S : Int) + 1 + 1 + 1 + 1 + (zs.length : Int)))).set 6 (.int .i64 (k0 + (S : Int) + 1 + 1 + 1 + 1 + (zs.length : Int) + 1))).then tt1 hg1)
      have p0 := o0.kept G.turned (by intro b hb hm; simp at hm; rcases hm with e | hm; exact hg0 (e ▸ hb); exact hd b hb hm)
      have p1 := o1
      have hdd0 : ∀ b ∈ fa0, b ∉ fb0 := hd0
      have hO := HBK.out _ [.int .i64 (k0 + (S : Int)), .int .i64 (k0 + (S : Int) + 1), .int .i64 (k0 + (S : Int) + 1 + 1), .int .i64 (k0 + (S : Int) + 1 + 1 + 1), .slice av0 zs.length cv0, .int .i64 (k0 + (S : Int) + 1 + 1 + 1 + 1 + (zs.length : Int)), .int .i64 (k0 + (S : Int) + 1 + 1 + 1 + 1 + (zs.length : Int) + 1), .slice av1 ys.length cv1] (k0 + (S : Int), k0 + (S : Int) + 1, k0 + (S : Int) + 1 + 1, k0 + (S : Int) + 1 + 1 + 1, marks id (k0 + (S : Int) + 1 + 1 + 1 + 1) zs.length, k0 + (S : Int) + 1 + 1 + 1 + 1 + (zs.length : Int), k0 + (S : Int) + 1 + 1 + 1 + 1 + (zs.length : Int) + 1, marks id (k0 + (S : Int) + 1 + 1 + 1 + 1 + (zs.length : Int) + 1 + 1) ys.length) (int_mine_of (int_mine_of (int_mine_of (int_mine_of (ints_mine_of p0 (int_mine_of (int_mine_of p1)) hdd0)))))
        (fun b hb hbf hbg => E.turned.block b (HLT.out b hb) (by simp at hbf ⊢; exact ⟨hbg, hbf.2, hbf.1⟩)) E.turned.size
        (ed_back (n := 8) E HCC.out hjn rfl)
      have e2 : markTurn1 (k0 + (S : Int)) (o, d1, b1, k, zs, d2, q1, ys) = (k0 + (S : Int), k0 + (S : Int) + 1, k0 + (S : Int) + 1 + 1, k0 + (S : Int) + 1 + 1 + 1, marks id (k0 + (S : Int) + 1 + 1 + 1 + 1) zs.length, k0 + (S : Int) + 1 + 1 + 1 + 1 + (zs.length : Int), k0 + (S : Int) + 1 + 1 + 1 + 1 + (zs.length : Int) + 1, marks id (k0 + (S : Int) + 1 + 1 + 1 + 1 + (zs.length : Int) + 1 + 1) ys.length) := rfl
      rw [← e2, HM.out] at hO
      have HO := hidden hO
      have HB := hidden (hb.trans (E.turned.mono (by intro b hb'; simp at hb'; rcases hb' with e | hb'; exact e ▸ hgp; exact hf1 b (by simp; rcases hb' with h | h <;> simp [h]))))
      clear hO e2 HBK HLT HCC E G  p0 p1 hb o0 o1
      go_wp2
      go_roundw
      case rel => exact ⟨j + 1, by omega, by go_num, by rw [HW.out]; go_num, HO.out, HB.out⟩
      case measure => simp [intOf]; omega
    · go_wp2
      go_ret
      obtain rfl : j = n := by omega
      have ht : (d.map cntTurn).take j = d.map cntTurn := List.take_of_length_le (by simp; omega)
      rw [List.take_of_length_le (by omega), List.drop_of_length_le (by omega), List.append_nil] at ho
      exact ⟨ret_int (by rw [ht]; rfl), ho, hb⟩

set_option maxRecDepth 20000 in
set_option maxHeartbeats 1600000 in
theorem heldTurnS_any (w : World) (E : TypeId) (a : Option Addr) (n cap : Nat) (d : List TurnD) (k0 : Int) (h : (tTurnS E).Rd w [.slice a n cap] (marktTurnS k0 d)) (hw : wttTurnS d ≤ 2097152) (hk : 0 ≤ k0) (hk' : k0 + (cnttTurnS d : Int) ≤ 16777216) :
    Calls Tryz.prog 110 #[.slice a n cap, .int .i64 k0] w fun e w' => e = .returned (.int .i64 (k0 + (cnttTurnS d : Int))) ∧ Same w w' := by
  obtain ⟨hl, hc, hm⟩ := row_length h
  have hmL : (marktTurnS k0 d).length = d.length := markL_length _ _ _ _
  rw [hmL] at hl
  have hn : n ≤ 2097152 := by unfold wttTurnS at hw; omega
  go_enter Tryz.func110, Tryz.ntmps110
  go_wp2
  go_loopw [1, 5] (fun kk i wr => ∃ j : Nat, j ≤ n ∧ i = .int .i64 j ∧ kk = .int .i64 (k0 + (sumL ((d.map cntTurn).take j) : Int)) ∧ Same w wr) (fun _ i _ => n - (intOf i).toNat)
  case atStart => exact ⟨0, Nat.zero_le _, rfl, by simp [sumL], Same.refl _⟩
  case round =>
    obtain ⟨j, hj, rfl, rfl, hs⟩ := hrel
    by_cases hjn : j < n
    · obtain ⟨o, d1, b1, k, zs, d2, q1, ys, hdj⟩ : ∃ o d1 b1 k zs d2 q1 ys, d[j]? = some (o, d1, b1, k, zs, d2, q1, ys) := ⟨_, _, _, _, _, _, _, _, List.getElem?_eq_getElem (by omega)⟩
      have hin := turn_inner hdj
      have hlen : zs.length + ys.length ≤ 2097152 := by unfold wttTurnS at hw; simp only [wTurn] at hin; omega
      have hst := sumL_take (l := d.map cntTurn) (j := j) (x := 6 + (zs.length + ys.length)) (by rw [List.getElem?_map, hdj]; rfl)
      have hle := sumL_le (l := d.map cntTurn) (j + 1)
      unfold cnttTurnS at hk'
      rcases turnS_at (h.same hs) with h0' | ⟨b, off, rfl, hbl, hcs⟩
      · omega
      obtain ⟨av0, cv0, av1, cv1, hc0, hc1, hc2, hc3, hc4, hc5, hc6, hc7, hr0, hr1⟩ := hcs j _ _ _ _ _ _ _ _ (markL_at (c := cntTurn) (mk := markTurn1) (k := k0) hdj)
      have HW := hidden hst
      simp only [marks_length] at hc0 hc1 hc2 hc3 hc4 hc5 hc6 hc7 hr0 hr1
      generalize sumL ((d.map cntTurn).take j) = S at hst HW hc0 hc1 hc2 hc3 hc4 hc5 hc6 hc7 hr0 hr1
      clear hcs hdj hin
      go_wp2_with fail
      refine (heldIntS_any _ _ _ _ _ (ints_rd hr0).1 (by omega) (by omega) (by omega)).mono ?_
      rintro e w2 ⟨rfl, hs2⟩
      have hc5 := (hs2.cell _).trans hc5
      have hc6 := (hs2.cell _).trans hc6
      have hc7 := (hs2.cell _).trans hc7
      go_wp2_with fail
      refine (heldIntS_any _ _ _ _ _ (ints_rd (hr1.same hs2)).1 (by omega) (by omega) (by omega)).mono ?_
      rintro e w3 ⟨rfl, hs3⟩
      have HS := hidden ((hs.trans hs2).trans hs3)
      clear hs hs2 hs3
      go_wp2
      go_roundw
      case rel => exact ⟨j + 1, by omega, by go_num, by rw [HW.out]; go_num, HS.out⟩
      case measure => simp [intOf]; omega
    · go_wp2
      go_ret
      obtain rfl : j = n := by omega
      have ht : (d.map cntTurn).take j = d.map cntTurn := List.take_of_length_le (by simp; omega)
      exact ⟨ret_int (by rw [ht]; rfl), hs⟩

set_option maxRecDepth 20000 in
set_option maxHeartbeats 1600000 in
theorem heldCmdS_any (w : World) (E : TypeId) (a : Option Addr) (n cap : Nat) (d : List CmdD) (k0 : Int) (h : (tCmdS E).Rd w [.slice a n cap] (marktCmdS k0 d)) (hw : wttCmdS d ≤ 2097152) (hk : 0 ≤ k0) (hk' : k0 + (cnttCmdS d : Int) ≤ 16777216) :
    Calls Tryz.prog 107 #[.slice a n cap, .int .i64 k0] w fun e w' => e = .returned (.int .i64 (k0 + (cnttCmdS d : Int))) ∧ Same w w' := by
  obtain ⟨hl, hc, hm⟩ := row_length h
  have hmL : (marktCmdS k0 d).length = d.length := markL_length _ _ _ _
  rw [hmL] at hl
  have hn : n ≤ 2097152 := by unfold wttCmdS at hw; omega
  go_enter Tryz.func107, Tryz.ntmps107
  go_wp2
  go_loopw [1, 5] (fun kk i wr => ∃ j : Nat, j ≤ n ∧ i = .int .i64 j ∧ kk = .int .i64 (k0 + (sumL ((d.map cntCmd).take j) : Int)) ∧ Same w wr) (fun _ i _ => n - (intOf i).toNat)
  case atStart => exact ⟨0, Nat.zero_le _, rfl, by simp [sumL], Same.refl _⟩
  case round =>
    obtain ⟨j, hj, rfl, rfl, hs⟩ := hrel
    by_cases hjn : j < n
    · obtain ⟨o, d1, b1, k, zs, hdj⟩ : ∃ o d1 b1 k zs, d[j]? = some (o, d1, b1, k, zs) := ⟨_, _, _, _, _, List.getElem?_eq_getElem (by omega)⟩
      have hin := cmd_inner hdj
      have hlen : zs.length ≤ 2097152 := by unfold wttCmdS at hw; simp only at hin; omega
      have hst := sumL_take (l := d.map cntCmd) (j := j) (x := 4 + (zs.length)) (by rw [List.getElem?_map, hdj]; rfl)
      have hle := sumL_le (l := d.map cntCmd) (j + 1)
      unfold cnttCmdS at hk'
      rcases cmdS_at (h.same hs) with h0' | ⟨b, off, rfl, hbl, hcs⟩
      · omega
      obtain ⟨av0, cv0, hc0, hc1, hc2, hc3, hc4, hr0⟩ := hcs j _ _ _ _ _ (markL_at (c := cntCmd) (mk := markCmd1) (k := k0) hdj)
      have HW := hidden hst
      simp only [marks_length] at hc0 hc1 hc2 hc3 hc4 hr0
      generalize sumL ((d.map cntCmd).take j) = S at hst HW hc0 hc1 hc2 hc3 hc4 hr0
      clear hcs hdj hin
      go_wp2_with fail
      refine (heldIntS_any _ _ _ _ _ (ints_rd hr0).1 (by omega) (by omega) (by omega)).mono ?_
      rintro e w2 ⟨rfl, hs2⟩
      have HS := hidden (hs.trans hs2)
      clear hs hs2
      go_wp2
      go_roundw
      case rel => exact ⟨j + 1, by omega, by go_num, by rw [HW.out]; go_num, HS.out⟩
      case measure => simp [intOf]; omega
    · go_wp2
      go_ret
      obtain rfl : j = n := by omega
      have ht : (d.map cntCmd).take j = d.map cntCmd := List.take_of_length_le (by simp; omega)
      exact ⟨ret_int (by rw [ht]; rfl), hs⟩

end Go.Proofs.YtbkkjfgjlapadaaGreat

/-
  The walk of the laws' mark over slices of disks: every number, flag and word is marked in place, one behind the other. Condition: they weigh at most 2097152, and the first mark and the weight together at most 2097153.
-/
namespace Go.Proofs.YtbkkjfgjlapadaaGreat
open Go.RowKit

def cntMD (x : MemD) : Nat := cntSS x.1 + cntWS x.2.1 + 1 + x.2.2.2.length
def markMD (k : Int) (x : MemD) : MemD := (markSS k x.1, markW (k + (cntSS x.1 : Int)) x.2.1, decide ((k + (cntSS x.1 : Int) + (cntWS x.2.1 : Int)) % 3 = 0), marks id (k + (cntSS x.1 : Int) + (cntWS x.2.1 : Int) + 1) x.2.2.2.length)
def markMS (k0 : Int) (d : List MemD) : List MemD := markL cntMD markMD k0 d
def cntMS (d : List MemD) : Nat := sumL (d.map cntMD)
theorem cntMS_le (d : List MemD) : cntMS d ≤ wtMemS d := by
  unfold cntMS wtMemS
  induction d with
  | nil => simp [sumL]
  | cons x d ih =>
    have h1 : cntMD x ≤ wtMem x + 1 := by
      have := Nat.le_of_eq (cntWS_wt x.2.1)
      unfold cntMD wtMem wtIntSS cntSS
      omega
    have e1 : sumL ((x :: d).map cntMD) = cntMD x + sumL (d.map cntMD) := by simp [sumL]
    have e2 : sumL ((x :: d).map wtMem) = wtMem x + sumL (d.map wtMem) := by simp [sumL]
    rw [e1, e2, List.length_cons]
    omega

set_option maxHeartbeats 6400000 in
theorem markMemS_fp (w : World) (a : Option Addr) (n cap : Nat) (d : List MemD) (k0 : Int) (fp : List Nat) (h : (tMemS 214 147).Mine w [.slice a n cap] d fp) (hw : wtMemS d ≤ 2097152) (hk : 0 ≤ k0) (hk' : k0 + (wtMemS d : Int) ≤ 2097153) :
    Calls Tryz.prog 179 #[.slice a n cap, .int .i64 k0] w fun e w' => e = .returned (.int .i64 (k0 + (cntMS d : Int))) ∧ (tMemS 214 147).Mine w' [.slice a n cap] (markMS k0 d) fp ∧ Turned fp w w' := by
  obtain ⟨hl, hc, hm⟩ := row_length h.rd
  have hmL : (markMS k0 d).length = d.length := markL_length _ _ _ _
  have hnn : n ≤ 2097152 := by unfold wtMemS at hw; omega
  have hwt := cntMS_le d
  go_enter Tryz.func179, Tryz.ntmps179
  go_wp2
  go_loopw [1, 5] (fun kk i wr => ∃ j : Nat, j ≤ n ∧ i = .int .i64 j ∧ kk = .int .i64 (k0 + (sumL ((d.map cntMD).take j) : Int)) ∧ (tMemS 214 147).Mine wr [.slice a n cap] ((markMS k0 d).take j ++ d.drop j) fp ∧ Turned fp w wr) (fun _ i _ => n - (intOf i).toNat)
  case atStart => exact ⟨0, Nat.zero_le _, rfl, by simp [sumL], by simpa using h, Turned.refl _ _⟩
  case round =>
    obtain ⟨j, hj, rfl, rfl, ho, hb⟩ := hrel
    by_cases hjn : j < n
    · have hdj : d[j]? = some (d[j]'(by omega)) := List.getElem?_eq_getElem (by omega)
      generalize d[j]'(by omega) = x at hdj
      have hst := sumL_take (l := d.map cntMD) (j := j) (x := cntMD x) (by rw [List.getElem?_map, hdj]; rfl)
      have hle := sumL_le (l := d.map cntMD) (j + 1)
      have hin := Nat.le_trans (inner_leM hdj) hw
      unfold cntMS at hwt
      have HM := hidden (turn_step hmL (markL_at (c := cntMD) (mk := markMD) (k := k0) hdj))
      have hat := turn_at (m := markMS k0 d) hmL hdj
      have HW := hidden hst
      generalize sumL ((d.map cntMD).take j) = S at hst HM HW
      obtain ⟨ss, cs, f, bs⟩ := x
      have hcx : cntMD (ss, cs, f, bs) = cntSS ss + cntWS cs + 1 + bs.length := rfl
      have hin0 : wtIntSS ss ≤ 2097152 := by unfold wtMem at hin; simp only at hin; omega
      have hin1 : wtWrS cs ≤ 2097152 := by unfold wtMem at hin; simp only at hin; omega
      have hin3 : bs.length ≤ 2097152 := by unfold wtMem at hin; simp only at hin; omega
      have hcw := Nat.le_of_eq (cntWS_wt cs)
      have hcw' := Nat.le_of_eq (cntWS_wt cs).symm
      have hS : k0 + (S : Int) + (cntSS ss : Int) + (cntWS cs : Int) + 1 + (bs.length : Int) ≤ 2097153 := by omega
      rcases row_ow_shape ho with h0' | ⟨g, rfl⟩
      · omega
      obtain ⟨cs1, f1, ow1, hgf, hgp, hf1, hcc, hfz, _, back⟩ := row_open ho hat
      have hcl := (tMem 214).rdLen ((tMem 214).owRd ow1.1)
      obtain ⟨v0, v1, v2, v3, rfl⟩ : ∃ v0 v1 v2 v3, cs1 = [v0, v1, v2, v3] := by
        match cs1, hcl with
        | [v0, v1, v2, v3], _ => exact ⟨v0, v1, v2, v3, rfl⟩
      obtain ⟨f0, g1, rfl, m0, ow2, d0⟩ := pair_mine (t := tIntSS) (u := pairTy (tWrS 214) (pairTy boolTy tIntS)) (vs := [v0]) (us := [v1, v2, v3]) rfl ow1
      obtain ⟨fc, g2, rfl, m1, ow3, d1⟩ := pair_mine (t := tWrS 214) (u := pairTy boolTy tIntS) (vs := [v1]) (us := [v2, v3]) rfl ow2
      obtain ⟨fb, f3, rfl, ⟨⟨hv2, hfb⟩, _⟩, m3, _⟩ := pair_mine (t := boolTy) (u := tIntS) (vs := [v2]) (us := [v3]) rfl ow3
      simp at hv2
      subst hv2
      subst hfb
      rw [List.nil_append] at *
      have hc0 : wr.cell? ⟨g, j * 4, none⟩ = some v0 := hcc 0 (by show 0 < 4; omega)
      have hc1 : wr.cell? ⟨g, j * 4 + 1, none⟩ = some v1 := hcc 1 (by show 1 < 4; omega)
      have hc2 : wr.cell? ⟨g, j * 4 + 2, none⟩ = some (.bool f) := hcc 2 (by show 2 < 4; omega)
      have hc3 : wr.cell? ⟨g, j * 4 + 3, none⟩ = some v3 := hcc 3 (by show 3 < 4; omega)
      obtain ⟨a0, e0, rfl⟩ := row_shape m0.rd
      obtain ⟨a1, e1', rfl⟩ := row_shape m1.rd
      obtain ⟨a3, e3, rfl⟩ := row_shape m3.rd
      have hlt := ho.lt
      have ng0 : g ∉ f0 := fun hm => hgf (List.mem_append_left _ hm)
      have ngc : g ∉ fc := fun hm => hgf (List.mem_append_right _ (List.mem_append_left _ hm))
      have ng3 : g ∉ f3 := fun hm => hgf (List.mem_append_right _ (List.mem_append_right _ hm))
      have d0c : ∀ b ∈ fc, b ∉ f0 := fun b hb hb' => d0 b hb' (List.mem_append_left _ hb)
      have d03 : ∀ b ∈ f3, b ∉ f0 := fun b hb hb' => d0 b hb' (List.mem_append_right _ hb)
      have dc3 : ∀ b ∈ f3, b ∉ fc := fun b hb hb' => d1 b hb' hb
      have hgl : g < wr.heap.size := hlt g hgp
      obtain ⟨cur, hcur, hcsz, hncap, _⟩ := row_block (ho.own (lo := 0) (hi := wr.heap.size) (fun b hb => ⟨Nat.zero_le _, ho.lt b hb⟩))
      have XB : Box wr g 147 cur := hcur
      have HBK := hidden back
      have HLT := hidden hlt
      have HF1 := hidden hf1
      have HFZ := hidden hfz
      have M0 := hidden m0
      have M1 := hidden m1
      have M3 := hidden m3
      have DD := hidden (And.intro d0 d1)
      have HG := hidden hgf
      have i1 : (0 : Int) ≤ (j : Int) := by omega
      have i2 : (j : Int) < (n : Int) := by omega
      clear hcc back hcl ow1 ow2 ow3 hat hdj ho hst hlt hfz hf1 m0 m1 m3 d0 d1 hgf
      have e1 : (k0 + (S : Int) + (cntSS ss : Int) + (cntWS cs : Int)).tmod 3 = (k0 + (S : Int) + (cntSS ss : Int) + (cntWS cs : Int)) % 3 := Int.tmod_eq_emod_of_nonneg (by omega)
      have HXB := hidden XB
      have HC := hidden (And.intro hc0 (And.intro hc1 hc3))
      clear XB hcur
      go_wp2_with fail
      refine (markIntSS_fp _ _ _ _ ss _ f0 M0.out hin0 (by omega) (by omega)).mono ?_
      rintro e w1 ⟨rfl, o1, t1⟩
      have b1 := t1.block g hgl ng0
      have kc1 := (cell_kept b1 (j * 4 + 1)).trans hc1
      have kc2 := (cell_kept b1 (j * 4 + 2)).trans hc2
      have kc3 := (cell_kept b1 (j * 4 + 3)).trans hc3
      have X1 := hidden (HXB.out.kept b1)
      have z1 := t1.size
      have M1' := hidden (M1.out.kept t1 d0c)
      have M3' := hidden (M3.out.kept t1 d03)
      have O1 := hidden o1
      have T1 := hidden t1
      clear hc0 hc1 hc2 hc3 b1 o1 t1 M0 M1 M3 HXB
      have hg1 : g < w1.heap.size := Nat.lt_of_lt_of_le hgl z1
      go_wp2_with fail
      refine (markWrS_fp _ _ _ _ cs _ fc M1'.out hin1 (by omega) (by omega)).mono ?_
      rintro e w2 ⟨rfl, o2, t2⟩
      have b2 := t2.block g hg1 ngc
      have lc2 := (cell_kept b2 (j * 4 + 2)).trans kc2
      have lc3 := (cell_kept b2 (j * 4 + 3)).trans kc3
      have x2 := X1.out.kept b2
      have X2 := hidden x2
      have ff := x2.frozen (j * 4 + 2)
      have z2 := t2.size
      have M3'' := hidden (M3'.out.kept t2 dc3)
      have O1' := hidden (O1.out.kept t2 (fun b hb hb' => d0c b hb' hb))
      have O2 := hidden o2
      have T2 := hidden t2
      have T3 : Hid (Turned [g] w2 (w2.setCell ⟨g, j * 4 + 2, none⟩ (.bool (decide ((k0 + (S : Int) + (cntSS ss : Int) + (cntWS cs : Int)) % 3 = 0))))) := Turned.setCell _ (by simp)
      have M3t := hidden (M3''.out.kept T3.out (fun b hb hb' => ng3 (by simp at hb'; exact hb' ▸ hb)))
      have O1t := hidden (O1'.out.kept T3.out (fun b hb hb' => ng0 (by simp at hb'; exact hb' ▸ hb)))
      have O2t := hidden (O2.out.kept T3.out (fun b hb hb' => ngc (by simp at hb'; exact hb' ▸ hb)))
      have X3 := hidden (x2.set (j * 4 + 2) (.bool (decide ((k0 + (S : Int) + (cntSS ss : Int) + (cntWS cs : Int)) % 3 = 0))))
      clear kc1 kc2 kc3 b2 o2 t2 X1 M1' M3' M3'' O1 O1' O2 x2
      have hg2 : g < w2.heap.size := Nat.lt_of_lt_of_le hg1 z2
      go_wp2_with fail
      generalize hw3 : w2.setCell ⟨g, j * 4 + 2, none⟩ (.bool (decide ((k0 + (S : Int) + (cntSS ss : Int) + (cntWS cs : Int)) % 3 = 0))) = w3 at T3 M3t O1t O2t X3 ⊢
      clear hw3
      refine (markIntS_fp _ _ _ _ bs _ f3 M3t.out (by omega) (by omega) (by omega)).mono ?_
      rintro e w4 ⟨rfl, o3, t4⟩
      have z3 := T3.out.size
      have z4 := t4.size
      have hg3 : g < w3.heap.size := Nat.lt_of_lt_of_le hg2 z3
      have hO := HBK.out w4 [.slice a0 ss.length e0, .slice a1 cs.length e1', .bool (decide ((k0 + (S : Int) + (cntSS ss : Int) + (cntWS cs : Int)) % 3 = 0)), .slice a3 bs.length e3] (markMD (k0 + (S : Int)) (ss, cs, f, bs))
        (pair_mine_of (t := tIntSS) (vs := [_]) (us := [_, _, _]) (O1t.out.kept t4 (fun b hb hb' => d03 b hb' hb)) (pair_mine_of (t := tWrS 214) (vs := [_]) (us := [_, _]) (O2t.out.kept t4 (fun b hb hb' => dc3 b hb' hb)) (pair_mine_of (t := boolTy) (u := tIntS) (vs := [_]) (us := [_]) (f1 := []) ⟨⟨rfl, rfl⟩, by simp⟩ o3 (by simp)) DD.out.2) DD.out.1)
        (fun b hb hbf hbg => by
          have n0 : b ∉ f0 := fun hm => hbf (List.mem_append_left _ hm)
          have nc : b ∉ fc := fun hm => hbf (List.mem_append_right _ (List.mem_append_left _ hm))
          have n3 : b ∉ f3 := fun hm => hbf (List.mem_append_right _ (List.mem_append_right _ hm))
          have l0 := HLT.out b hb
          rw [t4.block b (by omega) n3, T3.out.block b (by omega) (by simpa using hbg), T2.out.block b (by omega) nc, T1.out.block b l0 n0])
        (by omega)
        (fun cur2 hcur2 hcs2 hnc2 => by
          have hX := X3.out
          have e2 : cur2 = cur := by
            have h1 := X2.out
            have h2 : w2.heap[g]? = wr.heap[g]? := by rw [T2.out.block g hg1 ngc, T1.out.block g hgl ng0]
            unfold Box at h1
            rw [h2, hcur2] at h1
            simpa using h1
          subst e2
          refine ⟨_, (t4.block g hg3 ng3).trans hX, by simp, fun k => ?_⟩
          have hcs' : cur2.size = cap * 4 := hcs2
          rw [Array.toList_setIfInBounds]
          obtain ⟨p0, p1, p3⟩ := HC.out
          rw [cell_of_row wr g _ cur2 _ (0, 0) hcur2] at p0 p1 p3
          simp only [show (1 + (1 + (1 + 1)) : Nat) = 4 from rfl]
          by_cases k0' : k = j * 4
          · subst k0'
            rw [List.getElem?_set_ne (by omega), if_pos (by omega), Nat.sub_self, Array.getElem?_toList, p0]
            rfl
          · by_cases k1 : k = j * 4 + 1
            · subst k1
              rw [List.getElem?_set_ne (by omega), if_pos (by omega), Nat.add_sub_cancel_left, Array.getElem?_toList, p1]
              rfl
            · by_cases k2 : k = j * 4 + 2
              · subst k2
                rw [List.getElem?_set_self (by simp; omega), if_pos (by omega), Nat.add_sub_cancel_left]
                rfl
              · by_cases k3 : k = j * 4 + 3
                · subst k3
                  rw [List.getElem?_set_ne (by omega), if_pos (by omega), Nat.add_sub_cancel_left, Array.getElem?_toList, p3]
                  rfl
                · rw [List.getElem?_set_ne (by omega), if_neg (by omega)])
      rw [HM.out] at hO
      have HO := hidden hO
      have HB := hidden ((((hb.trans (T1.out.mono (fun b hm => HF1.out b (List.mem_append_left _ hm)))).trans (T2.out.mono (fun b hm => HF1.out b (List.mem_append_right _ (List.mem_append_left _ hm))))).trans (T3.out.mono (by simpa using hgp))).trans (t4.mono (fun b hm => HF1.out b (List.mem_append_right _ (List.mem_append_right _ hm)))))
      clear hO o3 t4 HBK hb T1 T2 T3 X2 X3 O1t O2t M3t HLT HC
      go_wp2
      go_roundw
      case rel => exact ⟨j + 1, by omega, by go_num, by rw [HW.out, hcx]; go_num, HO.out, HB.out⟩
      case measure => simp [intOf]; omega
    · go_wp2
      go_ret
      have e : j = n := by omega
      subst e
      have ht : (d.map cntMD).take j = d.map cntMD := List.take_of_length_le (by simp; omega)
      rw [List.take_of_length_le (by omega), List.drop_of_length_le (by omega), List.append_nil] at ho
      exact ⟨ret_int (by rw [ht]; rfl), ho, hb⟩

end Go.Proofs.YtbkkjfgjlapadaaGreat

/-
  The walk of the laws' mark over an array: its disks and stripes are marked in place. Condition: it weighs at most 2097152.
-/
namespace Go.Proofs.YtbkkjfgjlapadaaGreat
open Go.RowKit

set_option maxHeartbeats 1600000 in
theorem markArr_own (w : World) (lo m hi : Nat) (x : ArrN) (bm bd : Option Addr) (nm cm nd cd : Nat) (ms : List MemD) (ds : List (Int × List Int)) (h0 : (tMemS 214 147).Own w lo m [.slice bm nm cm] ms) (h1 : (tWrS 162).Own w m hi [.slice bd nd cd] ds) (hlm : lo ≤ m) (hmh : m ≤ hi) (hhi : hi ≤ w.heap.size) (hw : wtArr ms ds ≤ 2097152) :
    Calls Tryz.prog 100 #[.agg #[.int .i64 x.id, .int .i64 x.n, .int .i64 x.s, .slice bm nm cm, .int .i64 x.lost, .int .i64 x.built, .int .i64 x.seq, .int .i64 x.tail, .int .i64 x.gen, .slice bd nd cd, .int .i64 x.fuse, .bool x.down, .bool x.broken], .int .i64 1] w fun e w' => e = .returned (.int .i64 (1 + (cntMS ms : Int) + (cntWS ds : Int))) ∧ (tMemS 214 147).Own w' lo m [.slice bm nm cm] (markMS 1 ms) ∧ (tWrS 162).Own w' m hi [.slice bd nd cd] (markW (1 + (cntMS ms : Int)) ds) ∧ But lo hi w w' := by
  have hw0 : wtMemS ms ≤ 2097152 := by unfold wtArr at hw; omega
  have hw1 : wtWrS ds ≤ 2097152 := by unfold wtArr at hw; omega
  have hcm := cntMS_le ms
  have hA := new_below w (.cells #[.int .i64 x.id, .int .i64 x.n, .int .i64 x.s, .slice bm nm cm, .int .i64 x.lost, .int .i64 x.built, .int .i64 x.seq, .int .i64 x.tail, .int .i64 x.gen, .slice bd nd cd, .int .i64 x.fuse, .bool x.down, .bool x.broken] 29)
  have A := Box.new w 29 #[.int .i64 x.id, .int .i64 x.n, .int .i64 x.s, .slice bm nm cm, .int .i64 x.lost, .int .i64 x.built, .int .i64 x.seq, .int .i64 x.tail, .int .i64 x.gen, .slice bd nd cd, .int .i64 x.fuse, .bool x.down, .bool x.broken]
  obtain ⟨k0, k1, k2, k3, k4, k5, k6, k7, k8, k9, k10, k11, k12⟩ := A.cells13
  have o0 := h0.below hA
  have o1 := h1.below hA
  have zA := A.lt
  go_enter Tryz.func100, Tryz.ntmps100
  go_wp2_with fail
  generalize w.alloc (.cells #[.int .i64 x.id, .int .i64 x.n, .int .i64 x.s, .slice bm nm cm, .int .i64 x.lost, .int .i64 x.built, .int .i64 x.seq, .int .i64 x.tail, .int .i64 x.gen, .slice bd nd cd, .int .i64 x.fuse, .bool x.down, .bool x.broken] 29) = W at hA A o0 o1 zA k0 k1 k2 k3 k4 k5 k6 k7 k8 k9 k10 k11 k12 ⊢
  obtain ⟨f0, m0, r0⟩ := o0.mine
  refine (markMemS_fp _ _ _ _ ms 1 f0 m0 hw0 (by omega) (by omega)).mono ?_
  rintro e w1 ⟨rfl, p0, t1⟩
  have hb1 := t1.but (lo := lo) (hi := m) r0
  have q0 := p0.own r0
  have q1 := o1.but hb1 (.inr (Nat.le_refl _))
  have A1 := A.kept (hb1.block _ zA (by omega))
  have B1 := (But.of_below (lo := lo) (hi := hi) hA).trans ⟨hb1.os, hb1.tape, hb1.output, hb1.size, fun k hk ho => hb1.block k hk (by omega)⟩
  clear k0 k1 k2 k3 k4 k5 k6 k7 k8 k9 k10 k11 k12 A hb1 t1 p0 m0 o0 o1 hA
  obtain ⟨k0, k1, k2, k3, k4, k5, k6, k7, k8, k9, k10, k11, k12⟩ := A1.cells13
  obtain ⟨f1, m1, r1⟩ := q1.mine
  have hwa : (wtMemS ms : Int) + (wtWrS ds : Int) ≤ 2097152 := by unfold wtArr at hw; omega
  go_wp2_with fail
  refine (markEntS_fp _ _ _ _ ds (1 + (cntMS ms : Int)) f1 m1 hw1 (by omega) (by omega)).mono ?_
  rintro e w2 ⟨rfl, p1, t2⟩
  have hb2 := t2.but (lo := m) (hi := hi) r1
  have s1 := hidden (p1.own r1)
  have s0 := hidden (q0.but hb2 (.inl (Nat.le_refl _)))
  have B2 := hidden (B1.trans ⟨hb2.os, hb2.tape, hb2.output, hb2.size, fun k hk ho => hb2.block k hk (by omega)⟩)
  clear k0 k1 k2 k3 k4 k5 k6 k7 k8 k9 k10 k11 k12 A1 hb2 t2 p1 m1 q0 q1 B1
  go_wp2
  go_ret
  exact ⟨rfl, s0.out, s1.out, B2.out⟩

end Go.Proofs.YtbkkjfgjlapadaaGreat

/-
  The walks of the laws' helpers that ask whether the marks of an array's disks, and of the array, are held. Conditions: it weighs at most 2097152, the marks from 0 on to 2097153.
-/
namespace Go.Proofs.YtbkkjfgjlapadaaGreat
open Go.RowKit

set_option maxRecDepth 20000 in
set_option maxHeartbeats 1600000 in
theorem heldMemS_any (w : World) (E F : TypeId) (a : Option Addr) (n cap : Nat) (d : List MemD) (k0 : Int) (h : (tMemS E F).Rd w [.slice a n cap] (markMS k0 d)) (hw : wtMemS d ≤ 2097152) (hk : 0 ≤ k0) (hk' : k0 + (wtMemS d : Int) ≤ 2097153) :
    Calls Tryz.prog 181 #[.slice a n cap, .int .i64 k0] w fun e w' => e = .returned (.int .i64 (k0 + (cntMS d : Int))) ∧ Same w w' := by
  obtain ⟨hl, hc, hm⟩ := row_length h
  have hmL : (markMS k0 d).length = d.length := markL_length _ _ _ _
  rw [hmL] at hl
  have hnn : n ≤ 2097152 := by unfold wtMemS at hw; omega
  have hwt := cntMS_le d
  go_enter Tryz.func181, Tryz.ntmps181
  go_wp2
  go_loopw [1, 5] (fun kk i wr => ∃ j : Nat, j ≤ n ∧ i = .int .i64 j ∧ kk = .int .i64 (k0 + (sumL ((d.map cntMD).take j) : Int)) ∧ Same w wr) (fun _ i _ => n - (intOf i).toNat)
  case atStart => exact ⟨0, Nat.zero_le _, rfl, by simp [sumL], Same.refl _⟩
  case round =>
    obtain ⟨j, hj, rfl, rfl, hs⟩ := hrel
    by_cases hjn : j < n
    · have hdj : d[j]? = some (d[j]'(by omega)) := List.getElem?_eq_getElem (by omega)
      generalize d[j]'(by omega) = x at hdj
      have hst := sumL_take (l := d.map cntMD) (j := j) (x := cntMD x) (by rw [List.getElem?_map, hdj]; rfl)
      have hle := sumL_le (l := d.map cntMD) (j + 1)
      have hin := Nat.le_trans (inner_leM hdj) hw
      unfold cntMS at hwt
      have hmj := markL_at (c := cntMD) (mk := markMD) (k := k0) hdj
      have HW := hidden hst
      generalize sumL ((d.map cntMD).take j) = S at hst hmj HW
      rcases quads_at rfl h with h0' | ⟨b, off, rfl, hbl, hcs⟩
      · omega
      obtain ⟨v0, v1, v2, v3, hv0, hv1, hv2, hv3, hrv⟩ := hcs j _ hmj
      obtain ⟨ss, cs, f, bs⟩ := x
      obtain ⟨a0, c0, a1, c1, a3, c3, ss', cs', f', bs', hx, rfl, rfl, rfl, rfl, r0, r1, r3⟩ := mem_at hrv
      have hcx : cntMD (ss, cs, f, bs) = cntSS ss + cntWS cs + 1 + bs.length := rfl
      have hin0 : wtIntSS ss ≤ 2097152 := by unfold wtMem at hin; simp only at hin; omega
      have hin1 : wtWrS cs ≤ 2097152 := by unfold wtMem at hin; simp only at hin; omega
      have hin3 : bs.length ≤ 2097152 := by unfold wtMem at hin; simp only at hin; omega
      have hcw := Nat.le_of_eq (cntWS_wt cs)
      have hcw' := Nat.le_of_eq (cntWS_wt cs).symm
      have hS : k0 + (S : Int) + (cntSS ss : Int) + (cntWS cs : Int) + 1 + (bs.length : Int) ≤ 2097153 := by omega
      unfold markMD at hx
      simp only [Prod.mk.injEq] at hx
      obtain ⟨e0, e1, e2, e3⟩ := hx
      subst e0
      subst e1
      subst e3
      rw [marks_length] at hv3 r3
      have w0 := (hs.cell _).trans hv0
      have w1 := (hs.cell _).trans hv1
      have w2 := (hs.cell _).trans hv2
      have w3 := (hs.cell _).trans hv3
      have HE2 := hidden e2
      have i1 : (0 : Int) ≤ (j : Int) := by omega
      have i2 : (j : Int) < (n : Int) := by omega
      have R0 := r0.same hs
      have R1 := r1.same hs
      have R3 := r3.same hs
      clear hcs hst hdj hv0 hv1 hv2 hv3 hrv hmj e2 r0 r1 r3
      go_wp2_with fail
      refine (heldIntSS_any _ _ _ _ ss _ R0 hin0 (by omega) (by omega)).mono ?_
      rintro e u1 ⟨rfl, s1⟩
      have w1' := (s1.cell _).trans w1
      have w2' := (s1.cell _).trans w2
      have w3' := (s1.cell _).trans w3
      have R1' := R1.same s1
      have R3' := R3.same s1
      clear w0 w1 w2 w3 R0 R1 R3
      have p1 : ¬ k0 + (S : Int) + (cntSS ss : Int) < 0 := by omega
      go_wp2_with fail
      refine (heldWrS_any _ E _ _ _ cs _ R1' hin1 (by omega) (by omega)).mono ?_
      rintro e u2 ⟨rfl, s2⟩
      have w2 := (s2.cell _).trans w2'
      have w3 := (s2.cell _).trans w3'
      have R3 := ints_rd (R3'.same s2)
      clear w1' w2' w3' R1' R3'
      have hK : 0 ≤ k0 + (S : Int) + (cntSS ss : Int) + (cntWS cs : Int) ∧ k0 + (S : Int) + (cntSS ss : Int) + (cntWS cs : Int) ≤ 2097153 := by omega
      have HKK : Hid (k0 + (S : Int) + (cntSS ss : Int) + (cntWS cs : Int) + 1 + (bs.length : Int) = k0 + ((S + cntMD (ss, cs, f, bs) : Nat) : Int)) := by unfold Hid; rw [hcx]; omega
      generalize hKd : k0 + (S : Int) + (cntSS ss : Int) + (cntWS cs : Int) = K at hK HKK HE2 R3 hS ⊢
      clear hKd
      have p2 : ¬ K < 0 := by omega
      have t1 : K.tmod 3 = K % 3 := Int.tmod_eq_emod_of_nonneg hK.1
      have t2 : IntKind.i64.wrap (K % 3) = K % 3 := IntWalk.i64_in _ (by omega)
      have t3 : IntKind.i64.wrap (K + 1) = K + 1 := IntWalk.i64_in _ (by omega)
      have p3 : ¬ K + 1 + (bs.length : Int) < 0 := by omega
      have t4 : f' = (K % 3 == 0) := by rw [← HE2.out]; rfl
      have t5 : ((K % 3 == 0) != (K % 3 == 0)) = false := by simp
      have t6 : ((K % 3 == 0) == (K % 3 == 0)) = true := by simp
      subst t4
      clear HE2
      go_wp2_with fail
      refine (heldIntS_any _ _ _ _ _ R3.1 (by omega) (by omega) (by omega)).mono ?_
      rintro e u3 ⟨rfl, s3⟩
      have HS := hidden (((hs.trans s1).trans s2).trans s3)
      clear s1 s2 s3 hs R3 w2 w3
      go_wp2
      go_roundw
      case rel => exact ⟨j + 1, by omega, by go_num, by rw [HW.out, HKK.out], HS.out⟩
      case measure => simp [intOf]; omega
    · have ej : j = n := by omega
      subst ej
      have ht : (d.map cntMD).take j = d.map cntMD := List.take_of_length_le (by simp; omega)
      have HT : Hid (k0 + (sumL ((d.map cntMD).take j) : Int) = k0 + (cntMS d : Int)) := by unfold Hid cntMS; rw [ht]
      clear ht
      go_wp2
      go_ret
      exact ⟨ret_int HT.out, hs⟩

set_option maxRecDepth 20000 in
set_option maxHeartbeats 1600000 in
theorem heldArr_any (w : World) (E F G : TypeId) (x : ArrN) (bm bd : Option Addr) (nm cm nd cd : Nat) (ms : List MemD) (ds : List (Int × List Int)) (h0 : (tMemS E F).Rd w [.slice bm nm cm] (markMS 1 ms)) (h1 : (tWrS G).Rd w [.slice bd nd cd] (markW (1 + (cntMS ms : Int)) ds)) (hw : wtArr ms ds ≤ 2097152) :
    Calls Tryz.prog 106 #[.agg #[.int .i64 x.id, .int .i64 x.n, .int .i64 x.s, .slice bm nm cm, .int .i64 x.lost, .int .i64 x.built, .int .i64 x.seq, .int .i64 x.tail, .int .i64 x.gen, .slice bd nd cd, .int .i64 x.fuse, .bool x.down, .bool x.broken], .int .i64 1] w fun e w' => e = .returned (.int .i64 (1 + (cntMS ms : Int) + (cntWS ds : Int))) ∧ Below w.heap.size w w' := by
  have hw0 : wtMemS ms ≤ 2097152 := by unfold wtArr at hw; omega
  have hw1 : wtWrS ds ≤ 2097152 := by unfold wtArr at hw; omega
  have hws : wtMemS ms + wtWrS ds ≤ 2097152 := by unfold wtArr at hw; omega
  have hcm := cntMS_le ms
  have hA := new_below w (.cells #[.int .i64 x.id, .int .i64 x.n, .int .i64 x.s, .slice bm nm cm, .int .i64 x.lost, .int .i64 x.built, .int .i64 x.seq, .int .i64 x.tail, .int .i64 x.gen, .slice bd nd cd, .int .i64 x.fuse, .bool x.down, .bool x.broken] 29)
  have X := Box.new w 29 #[.int .i64 x.id, .int .i64 x.n, .int .i64 x.s, .slice bm nm cm, .int .i64 x.lost, .int .i64 x.built, .int .i64 x.seq, .int .i64 x.tail, .int .i64 x.gen, .slice bd nd cd, .int .i64 x.fuse, .bool x.down, .bool x.broken]
  obtain ⟨k0, k1, k2, k3, k4, k5, k6, k7, k8, k9, k10, k11, k12⟩ := X.cells13
  have r0 := h0.below hA
  have r1 := h1.below hA
  go_enter Tryz.func106, Tryz.ntmps106
  go_wp2_with fail
  generalize w.alloc (.cells #[.int .i64 x.id, .int .i64 x.n, .int .i64 x.s, .slice bm nm cm, .int .i64 x.lost, .int .i64 x.built, .int .i64 x.seq, .int .i64 x.tail, .int .i64 x.gen, .slice bd nd cd, .int .i64 x.fuse, .bool x.down, .bool x.broken] 29) = W at hA X r0 r1 k0 k1 k2 k3 k4 k5 k6 k7 k8 k9 k10 k11 k12 ⊢
  refine (heldMemS_any _ E F _ _ _ ms _ r0 hw0 (by omega) (by omega)).mono ?_
  rintro e w1 ⟨rfl, s1⟩
  have X1 := X.same s1
  have r2 := r1.same s1
  have B1 := Below.andSame hA s1
  clear k0 k1 k2 k3 k4 k5 k6 k7 k8 k9 k10 k11 k12 X r0 r1 s1 hA
  obtain ⟨k0, k1, k2, k3, k4, k5, k6, k7, k8, k9, k10, k11, k12⟩ := X1.cells13
  have p1 : ¬ 1 + (cntMS ms : Int) < 0 := by omega
  go_wp2_with fail
  refine (heldEntS_any _ G _ _ _ ds _ r2 hw1 (by omega) (by omega)).mono ?_
  rintro e w2 ⟨rfl, s2⟩
  have B2 := Below.andSame B1 s2
  have p2 : ¬ 1 + (cntMS ms : Int) + (cntWS ds : Int) < 0 := by omega
  clear k0 k1 k2 k3 k4 k5 k6 k7 k8 k9 k10 k11 k12 X1 r2 s2 B1
  go_wp2
  go_ret
  exact ⟨rfl, B2⟩

end Go.Proofs.YtbkkjfgjlapadaaGreat

/-
  The laws' marks over an engine, and whether they are held. Condition: it weighs at most 2097152.
-/
namespace Go.Proofs.YtbkkjfgjlapadaaGreat
open Go.RowKit

def cntEng (e : EngD) : Nat := cntMS e.ms + cntWS e.ds + cnttCmdS e.ws + cnttJobS e.js + cnttAnsS e.an + cnttTurnS e.ts
/-- The marks of an engine, from 1 on. -/
def markEngD (e : EngD) : EngD := ⟨e.x, markMS 1 e.ms, markW (1 + (cntMS e.ms : Int)) e.ds, marktCmdS (1 + (cntMS e.ms : Int) + (cntWS e.ds : Int)) e.ws, marktJobS (1 + (cntMS e.ms : Int) + (cntWS e.ds : Int) + (cnttCmdS e.ws : Int)) e.js, marktAnsS (1 + (cntMS e.ms : Int) + (cntWS e.ds : Int) + (cnttCmdS e.ws : Int) + (cnttJobS e.js : Int)) e.an, marktTurnS (1 + (cntMS e.ms : Int) + (cntWS e.ds : Int) + (cnttCmdS e.ws : Int) + (cnttJobS e.js : Int) + (cnttAnsS e.an : Int)) e.ts⟩

set_option maxHeartbeats 1600000 in
theorem markArr_fp (w : World) (x : ArrN) (bm bd : Option Addr) (nm cm nd cd : Nat) (ms : List MemD) (ds : List (Int × List Int)) (f0 f1 : List Nat) (h0 : (tMemS 214 147).Mine w [.slice bm nm cm] ms f0) (h1 : (tWrS 162).Mine w [.slice bd nd cd] ds f1) (hdis : ∀ b ∈ f0, b ∉ f1) (hw : wtArr ms ds ≤ 2097152) :
    Calls Tryz.prog 100 #[.agg #[.int .i64 x.id, .int .i64 x.n, .int .i64 x.s, .slice bm nm cm, .int .i64 x.lost, .int .i64 x.built, .int .i64 x.seq, .int .i64 x.tail, .int .i64 x.gen, .slice bd nd cd, .int .i64 x.fuse, .bool x.down, .bool x.broken], .int .i64 1] w fun e w' => e = .returned (.int .i64 (1 + (cntMS ms : Int) + (cntWS ds : Int))) ∧ (tMemS 214 147).Mine w' [.slice bm nm cm] (markMS 1 ms) f0 ∧ (tWrS 162).Mine w' [.slice bd nd cd] (markW (1 + (cntMS ms : Int)) ds) f1 ∧ Turned (f0 ++ f1) w w' := by
  have hcm := cntMS_le ms
  have hwa : wtMemS ms + wtWrS ds ≤ 2097152 := hw
  go_enter Tryz.func100, Tryz.ntmps100
  go_wp2_with fail
  refine seal_new ?_
  intro V A B
  refine (markMemS_fp _ _ _ _ ms 1 f0 (h0.below B) (by omega) (by omega) (by omega)).mono ?_
  rintro e w1 ⟨rfl, p0, t1⟩
  have hA0 : w.heap.size ∉ f0 := fun hm => by have := h0.lt _ hm; omega
  obtain ⟨k0, k1, k2, k3, k4, k5, k6, k7, k8, k9, k10, k11, k12⟩ := (A.turned t1 hA0).cells13
  go_wp2_with fail
  refine (markEntS_fp _ _ _ _ ds (1 + (cntMS ms : Int)) f1 ((h1.below B).kept t1 (fun b hb hb' => hdis b hb' hb)) (by omega) (by omega) (by omega)).mono ?_
  rintro e w2 ⟨rfl, p1, t2⟩
  have s0 := hidden (p0.kept t2 hdis)
  have s1 := hidden p1
  have T := hidden (((Turned.ofBelow B (f0 ++ f1)).trans (t1.mono (fun b hb => List.mem_append_left _ hb))).trans (t2.mono (fun b hb => List.mem_append_right _ hb)))
  clear t1 t2 p0 p1 B A
  go_wp2
  go_ret
  exact ⟨rfl, s0.out, s1.out, T.out⟩

set_option maxRecDepth 20000 in
set_option maxHeartbeats 3200000 in
theorem markEng_fp (w : World) (x : ArrN) (vm vd vw vj va vu : Value) (e : EngD) (fp : List Nat) (h : tEngS.Mine w [vm, vd, vw, vj, va, vu] e.dat fp) (hx : e.x = x) (hw : wtEng e ≤ 2097152) :
    Calls Tryz.prog 41 #[.agg (engC x vm vd vw vj va vu), .int .i64 1] w fun e' w' => e' = .returned (.int .i64 (1 + (cntEng e : Int))) ∧ tEngS.Mine w' [vm, vd, vw, vj, va, vu] (markEngD e).dat fp ∧ Turned fp w w' := by
  subst hx
  obtain ⟨x, ms, ds, ws, js, an, ts⟩ := e
  have HT : wtArr ms ds + wttCmdS ws + wttJobS js + wttAnsS an + wttTurnS ts ≤ 2097152 := hw
  clear hw
  have hwa : wtMemS ms + wtWrS ds ≤ wtArr ms ds := Nat.le_refl _
  have hcm := cntMS_le ms
  have hcw := Nat.le_of_eq (cntWS_wt ds)
  have hc2 := cnttCmdS_le ws
  have hc3 := cnttJobS_le js
  have hc4 := cnttAnsS_le an
  have hc5 := cnttTurnS_le ts
  obtain ⟨f0, u0, e0, m0, n0, d0⟩ := pair_mine (t := tMemS 214 147) (vs := [_]) rfl h
  obtain ⟨f1, u1, e1, m1, n1, d1⟩ := pair_mine (t := tWrS 162) (vs := [_]) rfl n0
  obtain ⟨f2, u2, e2, m2, n2, d2⟩ := pair_mine (t := tCmdS 38) (vs := [_]) rfl n1
  obtain ⟨f3, u3, e3, m3, n3, d3⟩ := pair_mine (t := tJobS 92) (vs := [_]) rfl n2
  obtain ⟨f4, u4, e4, m4, n4, d4⟩ := pair_mine (t := tAnsS 55) (vs := [_]) rfl n3
  obtain ⟨am, cm, rfl⟩ := row_shape m0.rd
  obtain ⟨ad, cd, rfl⟩ := row_shape m1.rd
  obtain ⟨aw, cw, rfl⟩ := row_shape m2.rd
  obtain ⟨aj, cj, rfl⟩ := row_shape m3.rd
  obtain ⟨aa, ca, rfl⟩ := row_shape m4.rd
  obtain ⟨au, cu, rfl⟩ := row_shape n4.rd
  have m5 := n4
  subst e4 e3 e2 e1 e0
  clear n0 n1 n2 n3 n4 h
  have D0 := hidden d0
  have D1 := hidden d1
  have D2 := hidden d2
  have D3 := hidden d3
  have D4 := hidden d4
  have x01 : ∀ b ∈ f0, b ∉ f1 := fun b hb hm => d0 b hb (by simp [hm])
  have hA : w.heap.size ∉ f0 ++ (f1 ++ (f2 ++ (f3 ++ (f4 ++ u4)))) := fun hm => by
    simp at hm
    rcases hm with h | h | h | h | h | h
    · have := m0.lt _ h; omega
    · have := m1.lt _ h; omega
    · have := m2.lt _ h; omega
    · have := m3.lt _ h; omega
    · have := m4.lt _ h; omega
    · have := m5.lt _ h; omega
  have HA := hidden hA
  clear d0 d1 d2 d3 d4 hA
  unfold engC
  go_enter Tryz.func41, Tryz.ntmps41
  go_wp2_with fail
  refine seal_new ?_
  intro V A B
  refine (markArr_fp _ x _ _ _ _ _ _ ms ds f0 f1 (m0.below B) (m1.below B) x01 (by omega)).mono ?_
  rintro e w1 ⟨rfl, p0, p1, t1⟩
  have q2 := (m2.below B).kept t1 (fun b hb hm => by simp at hm; rcases hm with h | h; exact D0.out b h (by simp [hb]); exact D1.out b h (by simp [hb]))
  have q3 := (m3.below B).kept t1 (fun b hb hm => by simp at hm; rcases hm with h | h; exact D0.out b h (by simp [hb]); exact D1.out b h (by simp [hb]))
  have q4 := (m4.below B).kept t1 (fun b hb hm => by simp at hm; rcases hm with h | h; exact D0.out b h (by simp [hb]); exact D1.out b h (by simp [hb]))
  have q5 := (m5.below B).kept t1 (fun b hb hm => by simp at hm; rcases hm with h | h; exact D0.out b h (by simp [hb]); exact D1.out b h (by simp [hb]))
  have A := A.turned t1 (fun hm => HA.out (by simp at hm ⊢; rcases hm with h | h <;> simp [h]))
  have T := hidden ((Turned.ofBelow B (f0 ++ (f1 ++ (f2 ++ (f3 ++ (f4 ++ u4)))))).trans (t1.mono (fun b hb => by simp at hb ⊢; rcases hb with h | h <;> simp [h])))
  clear m0 m1 m2 m3 m4 m5 t1 B x01
  obtain ⟨k0, k1, k2, k3, k4, k5, k6, k7, k8, k9, k10, k11, k12, k13, k14, k15, k16⟩ := A.cells17
  go_wp2_with fail
  refine (markCmdS_fp _ _ _ _ ws (1 + (cntMS ms : Int) + (cntWS ds : Int)) f2 q2 (by omega) (by omega) (by omega)).mono ?_
  rintro e w2 ⟨rfl, p2, t⟩
  have p0 := p0.kept t (fun b hb hm => D0.out b hb (by simp [hm]))
  have p1 := p1.kept t (fun b hb hm => D1.out b hb (by simp [hm]))
  have q3 := q3.kept t (fun b hb hm => D2.out b hm (by simp [hb]))
  have q4 := q4.kept t (fun b hb hm => D2.out b hm (by simp [hb]))
  have q5 := q5.kept t (fun b hb hm => D2.out b hm (by simp [hb]))
  have A := A.turned t (fun hm => HA.out (by simp [hm]))
  have T := hidden (T.out.trans (t.mono (fun b hb => by simp [hb])))
  clear t q2
  obtain ⟨k0, k1, k2, k3, k4, k5, k6, k7, k8, k9, k10, k11, k12, k13, k14, k15, k16⟩ := A.cells17
  go_wp2_with fail
  refine (markJobS_fp _ _ _ _ js (1 + (cntMS ms : Int) + (cntWS ds : Int) + (cnttCmdS ws : Int)) f3 q3 (by omega) (by omega) (by omega)).mono ?_
  rintro e w3 ⟨rfl, p3, t⟩
  have p0 := p0.kept t (fun b hb hm => D0.out b hb (by simp [hm]))
  have p1 := p1.kept t (fun b hb hm => D1.out b hb (by simp [hm]))
  have p2 := p2.kept t (fun b hb hm => D2.out b hb (by simp [hm]))
  have q4 := q4.kept t (fun b hb hm => D3.out b hm (by simp [hb]))
  have q5 := q5.kept t (fun b hb hm => D3.out b hm (by simp [hb]))
  have A := A.turned t (fun hm => HA.out (by simp [hm]))
  have T := hidden (T.out.trans (t.mono (fun b hb => by simp [hb])))
  clear t q3
  obtain ⟨k0, k1, k2, k3, k4, k5, k6, k7, k8, k9, k10, k11, k12, k13, k14, k15, k16⟩ := A.cells17
  go_wp2_with fail
  refine (markAnsS_fp _ _ _ _ an (1 + (cntMS ms : Int) + (cntWS ds : Int) + (cnttCmdS ws : Int) + (cnttJobS js : Int)) f4 q4 (by omega) (by omega) (by omega)).mono ?_
  rintro e w4 ⟨rfl, p4, t⟩
  have p0 := p0.kept t (fun b hb hm => D0.out b hb (by simp [hm]))
  have p1 := p1.kept t (fun b hb hm => D1.out b hb (by simp [hm]))
  have p2 := p2.kept t (fun b hb hm => D2.out b hb (by simp [hm]))
  have p3 := p3.kept t (fun b hb hm => D3.out b hb (by simp [hm]))
  have q5 := q5.kept t (fun b hb hm => D4.out b hm (by simp [hb]))
  have A := A.turned t (fun hm => HA.out (by simp [hm]))
  have T := hidden (T.out.trans (t.mono (fun b hb => by simp [hb])))
  clear t q4
  obtain ⟨k0, k1, k2, k3, k4, k5, k6, k7, k8, k9, k10, k11, k12, k13, k14, k15, k16⟩ := A.cells17
  go_wp2_with fail
  refine (markTurnS_fp _ _ _ _ ts (1 + (cntMS ms : Int) + (cntWS ds : Int) + (cnttCmdS ws : Int) + (cnttJobS js : Int) + (cnttAnsS an : Int)) u4 q5 (by omega) (by omega) (by omega)).mono ?_
  rintro e w5 ⟨rfl, p5, t⟩
  have p0 := p0.kept t (fun b hb hm => D0.out b hb (by simp [hm]))
  have p1 := p1.kept t (fun b hb hm => D1.out b hb (by simp [hm]))
  have p2 := p2.kept t (fun b hb hm => D2.out b hb (by simp [hm]))
  have p3 := p3.kept t (fun b hb hm => D3.out b hb (by simp [hm]))
  have p4 := p4.kept t (fun b hb hm => D4.out b hb (by simp [hm]))
  have A := A.turned t (fun hm => HA.out (by simp [hm]))
  have T := hidden (T.out.trans (t.mono (fun b hb => by simp [hb])))
  clear t q5
  have P := hidden (pair_mine_of (vs := [_]) p0 (pair_mine_of (vs := [_]) p1 (pair_mine_of (vs := [_]) p2 (pair_mine_of (vs := [_]) p3 (pair_mine_of (vs := [_]) p4 p5 D4.out) D3.out) D2.out) D1.out) D0.out)
  clear p0 p1 p2 p3 p4 p5 A
  have HC : Hid ((1 : Int) + (cntEng ⟨x, ms, ds, ws, js, an, ts⟩ : Int) = 1 + (cntMS ms : Int) + (cntWS ds : Int) + (cnttCmdS ws : Int) + (cnttJobS js : Int) + (cnttAnsS an : Int) + (cnttTurnS ts : Int)) := by unfold Hid cntEng; simp only; omega
  go_wp2
  go_ret
  exact ⟨ret_int HC.out.symm, P.out, T.out⟩

set_option maxRecDepth 20000 in
set_option maxHeartbeats 3200000 in
theorem heldEng_any (w : World) (cs : Array Value) (e : EngD) (h : EngRd w cs (markEngD e)) (hw : wtEng e ≤ 2097152) :
    Calls Tryz.prog 43 #[.agg cs, .int .i64 1] w fun e' w' => e' = .returned (.int .i64 (1 + (cntEng e : Int))) ∧ Below w.heap.size w w' := by
  obtain ⟨x, ms, ds, ws, js, an, ts⟩ := e
  obtain ⟨am, cm, ad, cd, aw, cw, aj, cj, aa, ca, au, cu, rfl, r0, r1, r2, r3, r4, r5⟩ := h.parts
  unfold engC
  have HT : wtArr ms ds + wttCmdS ws + wttJobS js + wttAnsS an + wttTurnS ts ≤ 2097152 := hw
  have hwa : wtMemS ms + wtWrS ds ≤ wtArr ms ds := Nat.le_refl _
  have hcm := cntMS_le ms
  have hcw := Nat.le_of_eq (cntWS_wt ds)
  have hc2 := cnttCmdS_le ws
  have hc3 := cnttJobS_le js
  have hc4 := cnttAnsS_le an
  have hc5 := cnttTurnS_le ts
  clear hw h
  dsimp only [markEngD] at r0 r1 r2 r3 r4 r5 ⊢
  go_enter Tryz.func43, Tryz.ntmps43
  go_wp2_with fail
  refine seal_new ?_
  intro V A B
  refine (heldArr_any _ 0 0 0 x _ _ _ _ _ _ ms ds (r0.below B) (r1.below B) (by omega)).mono ?_
  rintro e w1 ⟨rfl, b⟩
  have A := A.below b A.lt
  have B := Below.andThen B b
  have g0 : ¬ 1 + (cntMS ms : Int) + (cntWS ds : Int) < 0 := by omega
  obtain ⟨k0, k1, k2, k3, k4, k5, k6, k7, k8, k9, k10, k11, k12, k13, k14, k15, k16⟩ := A.cells17
  go_wp2_with fail
  refine (heldCmdS_any _ 0 _ _ _ ws (1 + (cntMS ms : Int) + (cntWS ds : Int)) (r2.below B) (by omega) (by omega) (by omega)).mono ?_
  rintro e w2 ⟨rfl, b⟩
  have A := A.same b
  have B := Below.andSame B b
  have g1 : ¬ 1 + (cntMS ms : Int) + (cntWS ds : Int) + (cnttCmdS ws : Int) < 0 := by omega
  obtain ⟨k0, k1, k2, k3, k4, k5, k6, k7, k8, k9, k10, k11, k12, k13, k14, k15, k16⟩ := A.cells17
  go_wp2_with fail
  refine (heldJobS_any _ 0 _ _ _ js (1 + (cntMS ms : Int) + (cntWS ds : Int) + (cnttCmdS ws : Int)) (r3.below B) (by omega) (by omega) (by omega)).mono ?_
  rintro e w3 ⟨rfl, b⟩
  have A := A.same b
  have B := Below.andSame B b
  have g2 : ¬ 1 + (cntMS ms : Int) + (cntWS ds : Int) + (cnttCmdS ws : Int) + (cnttJobS js : Int) < 0 := by omega
  obtain ⟨k0, k1, k2, k3, k4, k5, k6, k7, k8, k9, k10, k11, k12, k13, k14, k15, k16⟩ := A.cells17
  go_wp2_with fail
  refine (heldAnsS_any _ 0 _ _ _ an (1 + (cntMS ms : Int) + (cntWS ds : Int) + (cnttCmdS ws : Int) + (cnttJobS js : Int)) (r4.below B) (by omega) (by omega) (by omega)).mono ?_
  rintro e w4 ⟨rfl, b⟩
  have A := A.same b
  have B := Below.andSame B b
  have g3 : ¬ 1 + (cntMS ms : Int) + (cntWS ds : Int) + (cnttCmdS ws : Int) + (cnttJobS js : Int) + (cnttAnsS an : Int) < 0 := by omega
  obtain ⟨k0, k1, k2, k3, k4, k5, k6, k7, k8, k9, k10, k11, k12, k13, k14, k15, k16⟩ := A.cells17
  go_wp2_with fail
  refine (heldTurnS_any _ 0 _ _ _ ts (1 + (cntMS ms : Int) + (cntWS ds : Int) + (cnttCmdS ws : Int) + (cnttJobS js : Int) + (cnttAnsS an : Int)) (r5.below B) (by omega) (by omega) (by omega)).mono ?_
  rintro e w5 ⟨rfl, b⟩
  have A := A.same b
  have B := Below.andSame B b
  have g5 : ¬ 1 + (cntMS ms : Int) + (cntWS ds : Int) + (cnttCmdS ws : Int) + (cnttJobS js : Int) + (cnttAnsS an : Int) + (cnttTurnS ts : Int) < 0 := by omega
  have HC : Hid ((1 : Int) + (cntEng ⟨x, ms, ds, ws, js, an, ts⟩ : Int) = 1 + (cntMS ms : Int) + (cntWS ds : Int) + (cnttCmdS ws : Int) + (cnttJobS js : Int) + (cnttAnsS an : Int) + (cnttTurnS ts : Int)) := by unfold Hid cntEng; simp only; omega
  go_wp2
  go_ret
  exact ⟨ret_int HC.out.symm, B⟩

theorem markEng_own (w : World) (lo hi : Nat) (cs : Array Value) (e : EngD) (h : EngOwn w lo hi cs e) (hw : wtEng e ≤ 2097152) :
    Calls Tryz.prog 41 #[.agg cs, .int .i64 1] w fun e' w' => e' = .returned (.int .i64 (1 + (cntEng e : Int))) ∧ EngOwn w' lo hi cs (markEngD e) ∧ But lo hi w w' := by
  obtain ⟨vm, vd, vw, vj, va, vu, rfl, h2⟩ := h
  obtain ⟨fp, m, r⟩ := h2.mine
  refine (markEng_fp w e.x _ _ _ _ _ _ e fp m rfl hw).mono ?_
  rintro e' w' ⟨rfl, m2, t⟩
  exact ⟨rfl, ⟨_, _, _, _, _, _, rfl, m2.own r⟩, t.but r⟩

end Go.Proofs.YtbkkjfgjlapadaaGreat

/-
  A region in which two operations may come up next: a plain lemma. No condition.
-/
namespace Go.Proofs.YtbkkjfgjlapadaaGreat
open Go.RowKit

section
variable {P : Program} {ops : Array Oper} {Q : Exit → Act → World → Prop} {S : World → Prop}
/-- Two may come up next. -/
theorem held_two {i i' : Nat} {o o' : Oper} {fuel : Nat} {l : Array Bool} {a : Act} {w : World} {tl tl' : List Oper} (hr : Region.ready .any ops l = [i, i']) (ho : ops.toList.drop i = o :: tl) (ho' : ops.toList.drop i' = o' :: tl') (hw : Region.wanted o (yielded ops a.tmps) = true) (hw' : Region.wanted o' (yielded ops a.tmps) = true)
    (h : ∀ K' : Act → World → Prop, Shut (∀ a w, S w → (S w → wpAnyH P .any ops Q S fuel (l.setIfInBounds i true) a w) → K' a w) → Oper.wp P o a w K' Q)
    (h' : ∀ K' : Act → World → Prop, Shut (∀ a w, S w → (S w → wpAnyH P .any ops Q S fuel (l.setIfInBounds i' true) a w) → K' a w) → Oper.wp P o' a w K' Q) : wpAnyH P .any ops Q S (fuel + 1) l a w :=
  wpAnyH_ready hr (by simp) (AllReadyH.cons (op_at ho) (fun K' hK => by rw [if_pos hw]; exact h K' hK) (AllReadyH.cons (op_at ho') (fun K' hK => by rw [if_pos hw']; exact h' K' hK) AllReadyH.nil))
end

end Go.Proofs.YtbkkjfgjlapadaaGreat

/-
  The walk of the exact law of Begin: at every engine and every place it answers true, and nothing that was there has turned. No condition.
-/
namespace Go.Proofs.YtbkkjfgjlapadaaGreat
open Go.RowKit

section
variable {P : Program} {ops : Array Oper} {rest : List Oper} {op : Oper} {a : Act} {w : World} {Q : Exit → Act → World → Prop} {B : Nat} {T : TypeId} {cs : Array Value}
/-- A struct is loaded by an operation that is guarded, and wanted. -/
theorem wpList_load_boxG (hw : Region.wanted op (yielded ops a.tmps) = true) (T' : TypeId) (x : Operand) (ho : op.op = .load T' x) (hx : a.eval x = .pointer (some ⟨B, 0, none⟩)) (X : Box w B T cs) (d : TypeDesc) (hu : P.underlying T' = some d) (hd : d.isRow = true) (hi : (P.info? T').map (·.size) = some cs.size)
    (h : wpList P ops Q rest (a.put op.dst (.agg cs)) w) : wpList P ops Q (op :: rest) a w := by
  unfold wpList
  rw [if_pos hw]
  exact .inl (wp_load_mid T' x ho B 0 hx cs.toList d X.range hu hd (by rw [hi, Array.length_toList]) (by simpa using h))
end
theorem sumL_app15 (l m : List Nat) : sumL (l ++ m) = sumL l + sumL m := by
  induction l with
  | nil => simp [sumL]
  | cons x l ih =>
    unfold sumL at *
    simp only [List.cons_append, List.foldr_cons]
    omega
theorem cntEng_le (e : EngD) : cntEng e ≤ 6 * wtEng e := by
  have h1 := cntMS_le e.ms
  have h2 := Nat.le_of_eq (cntWS_wt e.ds)
  have h3 := cnttCmdS_le e.ws
  have h4 := cnttJobS_le e.js
  have h5 := cnttAnsS_le e.an
  have h6 := cnttTurnS_le e.ts
  have h7 : wtMemS e.ms + wtWrS e.ds ≤ wtArr e.ms e.ds := Nat.le_refl _
  unfold cntEng wtEng
  omega
theorem sumL_erase {α : Type} (f : α → Nat) {l : List α} {m : Nat} {c : α} (h : l[m]? = some c) : sumL ((l.eraseIdx m).map f) + f c = sumL (l.map f) := by
  obtain ⟨hm, he⟩ := List.getElem?_eq_some_iff.1 h
  have h1 : sumL (l.map f) = sumL (((l.take m) ++ (l.drop m)).map f) := by rw [List.take_append_drop]
  rw [h1, List.eraseIdx_eq_take_drop_succ, List.drop_eq_getElem_cons hm, he, List.map_append, List.map_append, sumL_app15, sumL_app15, List.map_cons]
  simp only [sumL, List.foldr_cons]
  omega
theorem begE_wt (e : EngD) (k : Int) : wtEng (begE e k) ≤ wtEng e + 2 := by
  unfold begE
  split
  · split
    · rename_i c hc
      have h1 := sumL_erase (fun x : CmdD => x.2.2.2.2.length) hc
      have h2 := (List.getElem?_eq_some_iff.1 hc).1
      have h3 : wttCmdS (e.ws.eraseIdx k.toNat) + 1 + c.2.2.2.2.length = wttCmdS e.ws := by
        unfold wttCmdS
        rw [List.length_eraseIdx_of_lt h2]
        omega
      unfold begC
      split
      · have h4 : wttJobS (e.js ++ [(c.1, c.2.1, c.2.2.1, c.2.2.2.1, c.2.2.2.2, 0, [], 0)]) = wttJobS e.js + 1 + c.2.2.2.2.length := by
          unfold wttJobS
          rw [List.length_append, List.map_append, sumL_app15]
          simp [sumL, wJob]
          omega
        unfold wtEng jobE takeE
        simp only [h4]
        omega
      · have h4 : ∀ q, wttAnsS (e.an ++ [(c.2.1, q, [])]) = wttAnsS e.an + 1 := fun q => by
          unfold wttAnsS
          rw [List.length_append, List.map_append, sumL_app15]
          simp [sumL]
          omega
        have h5 : ∀ q, wttTurnS (e.ts ++ [(c.1, c.2.1, c.2.2.1, c.2.2.2.1, c.2.2.2.2, c.2.1, q, [])]) = wttTurnS e.ts + 1 + c.2.2.2.2.length := fun q => by
          unfold wttTurnS
          rw [List.length_append, List.map_append, sumL_app15]
          simp [sumL, wTurn]
          omega
        unfold wtEng ansE takeE
        simp only [h4, h5]
        omega
    · omega
  · omega

set_option maxRecDepth 20000 in
set_option maxHeartbeats 6400000 in
theorem fnExactBegin_walk (cs : Array Value) (e : EngD) (k : Int) (w : World) (h : EngRd w cs e) :
    Calls Tryz.prog 6 #[.agg cs, .int .i64 k] w fun e' w' => e' = .returned (.bool true) ∧ Below w.heap.size w w' := by
  have SL : (Tryz.prog.info? 71).map (·.size) = some cs.size := by rw [h.size]; kernel_rfl
  go_enter Tryz.func6, Tryz.ntmps6
  go_wp2_with (first | (refine wpList_load_box rfl _ _ rfl rfl (Box.new _ _ _) _ Tryz.underlying71 rfl SL ?_) | fail)
  refine seal_new ?_
  intro V L B
  have zB := B.size
  have zL := L.lt
  refine (szEng_any _ cs e _ (h.below B) (by omega) (by omega)).mono ?_
  rintro e1 w1 ⟨rfl, bq⟩
  replace L := L.below bq L.lt
  replace B := Below.andThen B bq
  have zz1 := bq.size
  clear bq
  by_cases hwt : (wtEng e : Int) ≤ 1048576
  rotate_left
  · rw [leftOf_neg (left := 1048576) (wt := wtEng e) (by omega)]
    go_wp2
    go_ret
    exact ⟨rfl, B⟩
  rw [leftOf_pos hwt]
  have hq : ¬ (1048576 : Int) - (wtEng e : Int) < 0 := by omega
  have hwt2 : wtEng e ≤ 1048576 := by omega
  generalize (1048576 : Int) - (wtEng e : Int) = left at hq ⊢
  clear hwt
  obtain ⟨q, hcq⟩ : ∃ q, canB e k = q := ⟨_, rfl⟩
  obtain ⟨f, hf⟩ : ∃ f, begE e k = f := ⟨_, rfl⟩
  have hfw : wtEng f ≤ 2097152 := by have := begE_wt e k; rw [hf] at this; omega
  have hqq : (q != q) = false := by cases q <;> rfl
  have HQ := hidden hcq
  have HF := hidden hf
  clear hcq hf
  go_wp2_with (first | (refine wpList_load_box rfl _ _ rfl rfl L _ Tryz.underlying71 rfl SL ?_) | fail)
  refine (toEng_any _ cs e (h.below B) hwt2).mono ?_
  rintro e2 w2 ⟨c2, rfl, o2, bq⟩
  replace L := L.below bq L.lt
  replace B := Below.andThen B bq
  have zz2 := bq.size
  clear bq
  go_wp2_with fail
  refine (specBegin_any _ c2 e k o2.rd hwt2).mono ?_
  rintro e9 w3 ⟨c3, rfl, o3, bq⟩
  rw [HF.out] at o3
  rw [HQ.out]
  replace L := L.below bq L.lt
  replace B := Below.andThen B bq
  have zz3 := bq.size
  clear bq
  have SS3 := o3.rd.size
  have SZ3 : (Tryz.prog.info? 35).map (·.size) = some c3.size := by rw [SS3]; exact Tryz.sizeEng
  have O3 := o3.rd.one
  have U := hidden o3
  clear o3
  clear o2
  go_wp2_with (first | (refine wpList_load_box rfl _ _ rfl rfl L _ Tryz.underlying71 rfl SL ?_) | (refine wpList_store_new rfl _ _ _ rfl rfl rfl SS3.symm SZ3 O3 ?_; intro w4 P bq; replace L := L.below bq L.lt; replace U := hidden (U.out.below bq); replace B := Below.andThen B bq; have zz4 := bq.size; clear bq) | fail)
  have zP := P.lt
  refine (toEng_any _ cs e (h.below B) hwt2).mono ?_
  rintro e5 w5 ⟨c5, rfl, o5, bq⟩
  replace L := L.below bq L.lt
  replace P := P.below bq P.lt
  replace U := hidden (U.out.below bq)
  replace B := Below.andThen B bq
  have zz5 := bq.size
  clear bq
  have SS5 := o5.rd.size
  have SZ5 : (Tryz.prog.info? 35).map (·.size) = some c5.size := by rw [SS5]; exact Tryz.sizeEng
  have O5 := o5.rd.one
  have OA := hidden o5
  clear o5
  go_wp2_with (first | (refine wpList_store_new rfl _ _ _ rfl rfl rfl SS5.symm SZ5 O5 ?_; intro w6 A bq; replace L := L.below bq L.lt; replace P := P.below bq P.lt; replace U := hidden (U.out.below bq); replace OA := hidden (OA.out.below bq); replace B := Below.andThen B bq; have zz6 := bq.size; clear bq) | (refine wpList_load_box rfl _ _ rfl rfl A _ Tryz.underlying35 rfl SZ5 ?_) | fail)
  have zA := A.lt
  refine (implBegin_any _ c5 e k OA.out.rd hwt2).mono ?_
  rintro e9 w7 ⟨c7, rfl, o7, bq⟩
  rw [HF.out] at o7
  rw [HQ.out]
  replace L := L.below bq L.lt
  replace P := P.below bq P.lt
  replace A := A.below bq A.lt
  replace U := hidden (U.out.below bq)
  replace OA := hidden (OA.out.below bq)
  replace B := Below.andThen B bq
  have zz7 := bq.size
  clear bq
  have SS7 := o7.rd.size
  have SZ7 : (Tryz.prog.info? 35).map (·.size) = some c7.size := by rw [SS7]; exact Tryz.sizeEng
  have O7 := o7.rd.one
  have OX := hidden o7
  clear o7
  go_wp2_with (first | (refine wpList_load_box rfl _ _ rfl rfl P _ Tryz.underlying35 rfl SZ3 ?_) | (refine wpList_store_new rfl _ _ _ rfl rfl rfl SS7.symm SZ7 O7 ?_; intro w8 X bq; replace L := L.below bq L.lt; replace P := P.below bq P.lt; replace A := A.below bq A.lt; replace U := hidden (U.out.below bq); replace OA := hidden (OA.out.below bq); replace OX := hidden (OX.out.below bq); replace B := Below.andThen B bq; have zz8 := bq.size; clear bq) | (refine wpList_load_box rfl _ _ rfl rfl X _ Tryz.underlying35 rfl SZ7 ?_) | fail)
  have zX := X.lt
  refine (eqEng_same _ c7 c3 f OX.out.rd U.out.rd hfw).mono ?_
  rintro e9 w9 ⟨rfl, bq⟩
  replace L := L.below bq L.lt
  replace P := P.below bq P.lt
  replace A := A.below bq A.lt
  replace X := X.below bq X.lt
  replace U := hidden (U.out.below bq)
  replace OA := hidden (OA.out.below bq)
  replace OX := hidden (OX.out.below bq)
  replace B := Below.andThen B bq
  have zz9 := bq.size
  clear bq
  go_wp2_with fail
  refine wp_region_held_drew (S := fun w' => Box w' w5.heap.size 35 c5 ∧ Box w' w.heap.size 71 cs) (by kernel_rfl) ⟨A, L⟩ (fun hHeld => ?_)
  refine held_load 0 (fun _ h => h.1) Tryz.underlying35 SZ5 hHeld ?_
  refine held_load 1 (fun _ h => h.2) Tryz.underlying71 SL hHeld ?_
  have qc : Below w9.heap.size w9 w9.drew := (Below.refl _ _).drew
  refine held_one (i := 2) (by kernel_rfl) rfl (by kernel_rfl) (fun K hK => ?_)
  go_simp
  refine (toEng_any _ cs e (h.below (B.trans (qc.mono B.size))) hwt2).mono ?_
  rintro e14 w9a ⟨ct, rfl, ot, pn⟩
  replace qc := Below.andThen qc pn
  clear pn
  go_wp2_with fail
  clear hHeld
  refine hK.out _ _ ⟨A.below qc A.lt, L.below qc L.lt⟩ (fun hHeld => ?_)
  clear hK K
  refine held_one (i := 3) (by kernel_rfl) rfl (by kernel_rfl) (fun K hK => ?_)
  go_simp
  refine (eqEng_same _ c5 ct e (OA.out.rd.below qc) ot.rd (by omega)).mono ?_
  rintro e14 w9b ⟨rfl, pn⟩
  replace qc := Below.andThen qc pn
  clear pn
  go_wp2_with fail
  clear hHeld
  refine hK.out _ _ ⟨A.below qc A.lt, L.below qc L.lt⟩ (fun hHeld => ?_)
  clear hK K
  refine held_t 4 hHeld ?_
  refine wpAnyH_done (by kernel_rfl) ?_ _
  clear hHeld
  replace L := L.below qc L.lt
  replace P := P.below qc P.lt
  replace A := A.below qc A.lt
  replace X := X.below qc X.lt
  replace U := hidden (U.out.below qc)
  replace OA := hidden (OA.out.below qc)
  replace OX := hidden (OX.out.below qc)
  replace B := Below.andThen B qc
  have zz10 := qc.size
  clear qc
  clear ot
  have hce := cntEng_le e
  have hcf := cntEng_le f
  have hm0 : ¬ (1 : Int) + (cntEng e : Int) < 0 := by omega
  have hm1 : ¬ (1 : Int) + (cntEng f : Int) < 0 := by omega
  go_wp2_with (first | (refine wpList_load_box rfl _ _ rfl rfl A _ Tryz.underlying35 rfl SZ5 ?_) | fail)
  refine (markEng_own _ _ _ c5 e OA.out (by omega)).mono ?_
  rintro e15 w15 ⟨rfl, oM, bq⟩
  clear oM
  replace L := L.kept (bq.block _ L.lt (by omega))
  replace P := P.kept (bq.block _ P.lt (by omega))
  replace A := A.kept (bq.block _ A.lt (by omega))
  replace X := X.kept (bq.block _ X.lt (by omega))
  replace U := hidden (U.out.but bq (by omega))
  replace OX := hidden (OX.out.but bq (by omega))
  replace B := Below.andBut B bq (by omega)
  have zz11 := bq.size
  clear bq
  clear OA
  go_wp2_with (first | (refine wpList_load_boxG (by kernel_rfl) _ _ rfl rfl X _ Tryz.underlying35 rfl SZ7 ?_) | (refine wpList_load_boxG (by kernel_rfl) _ _ rfl rfl P _ Tryz.underlying35 rfl SZ3 ?_) | fail)
  refine (eqEng_same _ c7 c3 f OX.out.rd U.out.rd hfw).mono ?_
  rintro e17 w17 ⟨rfl, bq⟩
  replace L := L.below bq L.lt
  replace P := P.below bq P.lt
  replace A := A.below bq A.lt
  replace X := X.below bq X.lt
  replace U := hidden (U.out.below bq)
  replace OX := hidden (OX.out.below bq)
  replace B := Below.andThen B bq
  have zz12 := bq.size
  clear bq
  go_wp2_with (first | (refine wpList_load_box rfl _ _ rfl rfl X _ Tryz.underlying35 rfl SZ7 ?_) | fail)
  refine (markEng_own _ _ _ c7 f OX.out hfw).mono ?_
  rintro e18 w18 ⟨rfl, oM, bq⟩
  replace L := L.kept (bq.block _ L.lt (by omega))
  replace P := P.kept (bq.block _ P.lt (by omega))
  replace A := A.kept (bq.block _ A.lt (by omega))
  replace X := X.kept (bq.block _ X.lt (by omega))
  replace U := hidden (U.out.but bq (by omega))
  replace B := Below.andBut B bq (by omega)
  have zz13 := bq.size
  clear bq
  replace OX := hidden oM
  clear oM
  go_wp2_with (first | (refine wpList_load_box rfl _ _ rfl rfl X _ Tryz.underlying35 rfl SZ7 ?_) | fail)
  refine (heldEng_any _ c7 f OX.out.rd hfw).mono ?_
  rintro e19 w19 ⟨rfl, bq⟩
  replace L := L.below bq L.lt
  replace P := P.below bq P.lt
  replace A := A.below bq A.lt
  replace X := X.below bq X.lt
  replace U := hidden (U.out.below bq)
  replace OX := hidden (OX.out.below bq)
  replace B := Below.andThen B bq
  have zz14 := bq.size
  clear bq
  have hcc : ((1 : Int) + (cntEng f : Int) != 1 + (cntEng f : Int)) = false := by simp
  go_wp2_with (first | (refine wpList_load_box rfl _ _ rfl rfl L _ Tryz.underlying71 rfl SL ?_) | fail)
  refine (toEng_any _ cs e (h.below B) hwt2).mono ?_
  rintro e20 w20 ⟨c20, rfl, o20, bq⟩
  replace L := L.below bq L.lt
  replace P := P.below bq P.lt
  replace A := A.below bq A.lt
  replace X := X.below bq X.lt
  replace U := hidden (U.out.below bq)
  replace OX := hidden (OX.out.below bq)
  replace B := Below.andThen B bq
  have zz15 := bq.size
  clear bq
  go_wp2_with fail
  refine (implBegin_any _ c20 e k o20.rd hwt2).mono ?_
  rintro e9 w21 ⟨c21, rfl, o21, bq⟩
  rw [HF.out] at o21
  rw [HQ.out]
  replace L := L.below bq L.lt
  replace P := P.below bq P.lt
  replace A := A.below bq A.lt
  replace X := X.below bq X.lt
  replace U := hidden (U.out.below bq)
  replace OX := hidden (OX.out.below bq)
  replace B := Below.andThen B bq
  have zz16 := bq.size
  clear bq
  have SS21 := o21.rd.size
  have SZ21 : (Tryz.prog.info? 35).map (·.size) = some c21.size := by rw [SS21]; exact Tryz.sizeEng
  have O21 := o21.rd.one
  have UY := hidden o21
  clear o21
  clear o20
  go_wp2_with (first | (refine wpList_load_box rfl _ _ rfl rfl P _ Tryz.underlying35 rfl SZ3 ?_) | (refine wpList_store_new rfl _ _ _ rfl rfl rfl SS21.symm SZ21 O21 ?_; intro w22 Y bq; replace L := L.below bq L.lt; replace P := P.below bq P.lt; replace A := A.below bq A.lt; replace X := X.below bq X.lt; replace U := hidden (U.out.below bq); replace OX := hidden (OX.out.below bq); replace UY := hidden (UY.out.below bq); replace B := Below.andThen B bq; have zz17 := bq.size; clear bq) | (refine wpList_load_box rfl _ _ rfl rfl Y _ Tryz.underlying35 rfl SZ21 ?_) | fail)
  refine (eqEng_same _ c21 c3 f UY.out.rd U.out.rd hfw).mono ?_
  rintro e23 w23 ⟨rfl, bq⟩
  replace L := L.below bq L.lt
  replace P := P.below bq P.lt
  replace A := A.below bq A.lt
  replace X := X.below bq X.lt
  replace Y := Y.below bq Y.lt
  replace U := hidden (U.out.below bq)
  replace OX := hidden (OX.out.below bq)
  replace UY := hidden (UY.out.below bq)
  replace B := Below.andThen B bq
  have zz18 := bq.size
  clear bq
  go_wp2_with (first | (refine wpList_load_box rfl _ _ rfl rfl X _ Tryz.underlying35 rfl SZ7 ?_) | fail)
  refine (heldEng_any _ c7 f OX.out.rd hfw).mono ?_
  rintro e24 w24 ⟨rfl, bq⟩
  replace L := L.below bq L.lt
  replace P := P.below bq P.lt
  replace A := A.below bq A.lt
  replace X := X.below bq X.lt
  replace Y := Y.below bq Y.lt
  replace U := hidden (U.out.below bq)
  replace OX := hidden (OX.out.below bq)
  replace UY := hidden (UY.out.below bq)
  replace B := Below.andThen B bq
  have zz19 := bq.size
  clear bq
  have HB := hidden B
  clear L P A X Y B
  go_wp2
  go_ret
  exact ⟨rfl, HB.out⟩

end Go.Proofs.YtbkkjfgjlapadaaGreat

/-
  What the row's reading says of arguments with depth, in these texts' own words. No condition.
-/
namespace Go.Proofs.YtbkkjfgjlapadaaGreat
open Go.RowKit Go.ChangeShapes Go.WideShapes Go.ChangeAt Go.Joins Go.Deep

section
variable {H : Type} {enc : TypeId × Value → H} {P : Program} {w : World} {held : Bool}

theorem rdInts_of {t q : TypeId} {fuel : Nat} {v : Value} {x : DataW H × List MemPlace} (ht : P.underlying t = some (.slice q)) (hq : P.underlying q = some (.int .i64)) (cq : P.cellsOf q = 1)
    (h : DataW.trod enc P w 0 (fun _ => true) held fuel t [v] = some x) : ∃ zs, tIntS.Rd w [v] zs := by
  rcases open_ints ht hq cq h with ⟨hcs, _⟩ | ⟨a, len, cap, zs, hcs, _, hl, hm, hz, _, hcell, hwz⟩
  · simp at hcs
    subst hcs
    exact ⟨[], ints_rd_of (.inl rfl) (Nat.le_refl _) (by simp) (fun _ => rfl)⟩
  · simp at hcs
    subst hcs
    have hr : IsRow .i64 w (some a) len cap zs := .inr ⟨_, rfl, hl, hm, by simpa using hz, hcell, hwz⟩
    obtain ⟨h1, h2, _, _⟩ := hr.reads
    refine ⟨zs.take len, ?_⟩
    have := ints_rd_of (E := 3) (cap := cap) h1 (by omega) (by unfold maxLen at hm; omega) (by simp)
    rw [h2] at this
    exact this

/-- A slice by its elements. -/
theorem rd_row {t : Ty} {E : TypeId} {a : Addr} {len cap : Nat} (hl : len ≤ cap) (hm : cap ≤ 9223372036854775807) (cs : Nat → List Value) (hn : 0 < t.n) (hcl : ∀ i, i < len → (cs i).length = t.n)
    (hc : ∀ i, i < len → ∀ j, j < t.n → w.cell? (a.add (i * t.n + j)) = (cs i)[j]?) (hx : ∀ i, i < len → ∃ x, t.Rd w (cs i) x) : ∃ d, (rowTy t E).Rd w [.slice (some a) len cap] d := by
  have each : ∀ i, i < len → ∃ y : t.D × List Nat, t.rd w (cs i) y.1 y.2 := by
    intro i hi
    obtain ⟨x, fp, h⟩ := hx i hi
    exact ⟨(x, fp), h⟩
  by_cases h0 : len = 0
  · subst h0
    exact ⟨[], [], some a, cap, rfl, by simp, hm, .inl ⟨rfl, rfl, by simp⟩⟩
  · have hne : Nonempty (t.D × List Nat) := by
      obtain ⟨y, _⟩ := each 0 (by omega)
      exact ⟨y⟩
    have hch : ∃ f : Nat → t.D × List Nat, ∀ i, i < len → t.rd w (cs i) (f i).1 (f i).2 := by
      refine ⟨fun i => if h : i < len then Classical.choose (each i h) else Classical.choice hne, fun i hi => ?_⟩
      simp only [dif_pos hi]
      exact Classical.choose_spec (each i hi)
    obtain ⟨f, hf⟩ := hch
    obtain ⟨b, off, spot⟩ := a
    have hc0 := hc 0 (by omega) 0 hn
    have hsome : ∃ v0, (cs 0)[0]? = some v0 := ⟨(cs 0)[0]'(by rw [hcl 0 (by omega)]; exact hn), List.getElem?_eq_getElem _⟩
    obtain ⟨v0, hv0⟩ := hsome
    rw [hv0] at hc0
    have hspot : spot = none := by simpa [Addr.add] using World.cell?_spot hc0
    subst hspot
    have ea : ∀ k, (⟨b, off, none⟩ : Addr).add k = ⟨b, off + k, none⟩ := by
      intro k
      unfold Addr.add
      split <;> simp_all
    rw [ea] at hc0
    have hblt : b < w.heap.size := World.block_lt_of_cell? w _ hc0
    refine ⟨(List.range len).map fun i => (f i).1, b :: ((List.range len).map fun i => (f i).2).flatten, _, cap, by simp, by simpa using hl, hm, .inr ⟨b, off, (List.range len).map fun i => (f i).2, rfl, hblt, rfl, by simp, fun i x hxi => ?_⟩⟩
    have hi : i < len := by
      have := (List.getElem?_eq_some_iff.1 hxi).1
      simpa using this
    rw [List.getElem?_map, List.getElem?_range hi] at hxi
    simp at hxi
    subst hxi
    refine ⟨(f i).2, cs i, by rw [List.getElem?_map, List.getElem?_range hi]; rfl, hf i hi, fun j hj => ?_⟩
    rw [← ea]
    exact hc i hi j hj

theorem rdIntSS_of {t e q : TypeId} {fuel : Nat} {v : Value} {x : DataW H × List MemPlace} (ht : P.underlying t = some (.slice e)) (he : P.underlying e = some (.slice q)) (hq : P.underlying q = some (.int .i64)) (ce : P.cellsOf e = 1) (cq : P.cellsOf q = 1)
    (h : DataW.trod enc P w 0 (fun _ => true) held fuel t [v] = some x) : ∃ d, tIntSS.Rd w [v] d := by
  rcases open_slice1 ht ce h with ⟨hcs, _⟩ | ⟨a, len, cap, m, n, V, D, Pl, hcs, _, hl, hm, hmm, _, hx⟩
  · simp at hcs
    subst hcs
    exact ⟨[], [], none, 0, rfl, by simp, by simp, .inl ⟨rfl, rfl, fun _ => rfl⟩⟩
  · simp at hcs
    subst hcs
    simp only [if_true] at hmm
    refine rd_row hl (by unfold maxLen at hm; omega) (fun i => [V i]) (by decide) (fun _ _ => rfl) (fun i hi j hj => ?_) (fun i hi => rdInts_of he hq cq (hx i (by omega)).2)
    have hj0 : j = 0 := by have : j < 1 := hj; omega
    subst hj0
    have := (hx i (by omega)).1
    show w.cell? (a.add (i * 1 + 0)) = some (V i)
    rw [Nat.mul_one, Nat.add_zero]
    exact this

theorem rdWrS_of {t e q : TypeId} {f0 f1 : Field} {E : TypeId} {fuel : Nat} {v : Value} {x : DataW H × List MemPlace} (ht : P.underlying t = some (.slice e)) (he : P.underlying e = some (.struct #[f0, f1])) (ce : P.cellsOf e = 2) (o0 : f0.offset = 0) (o1 : f1.offset = 1) (c0 : P.cellsOf f0.type = 1) (c1 : P.cellsOf f1.type = 1)
    (hi0 : P.underlying f0.type = some (.int .i64)) (hi1 : P.underlying f1.type = some (.slice q)) (hq : P.underlying q = some (.int .i64)) (cq : P.cellsOf q = 1)
    (h : DataW.trod enc P w 0 (fun _ => true) held fuel t [v] = some x) : ∃ d, (tWrS E).Rd w [v] d := by
  rcases open_slice_pairs ht he ce o0 o1 c0 c1 h with ⟨hcs, _⟩ | ⟨a, len, cap, m, n, V0, V1, D0, D1, P0, P1, hcs, _, hl, hm, hmm, _, hx⟩
  · simp at hcs
    subst hcs
    exact ⟨[], [], none, 0, rfl, by simp, by simp, .inl ⟨rfl, rfl, fun _ => rfl⟩⟩
  · simp at hcs
    subst hcs
    simp only [if_true] at hmm
    refine rd_row hl (by unfold maxLen at hm; omega) (fun i => [V0 i, V1 i]) (by decide) (fun _ _ => rfl) (fun i hi j hj => ?_) (fun i hi => ?_)
    · have hj2 : j < 2 := hj
      obtain ⟨h0, h1, _⟩ := hx i (by omega)
      match j, hj2 with
      | 0, _ => exact h0
      | 1, _ => exact h1
    · obtain ⟨_, _, h2, h3⟩ := hx i (by omega)
      obtain ⟨y, hy, _, _⟩ := DataW.trod_int hi0 h2
      obtain ⟨zs, hzs⟩ := rdInts_of hi1 hq cq h3
      simp at hy
      exact ⟨(y, zs), by rw [hy]; exact pair_rd_of (t := intTy) (vs := [_]) ⟨[], rfl, rfl⟩ hzs⟩

end
end Go.Proofs.YtbkkjfgjlapadaaGreat

/-
  A slice of whatever that came in, by what its elements read. No condition.
-/
namespace Go.Proofs.YtbkkjfgjlapadaaGreat
open Go.RowKit Go.ChangeShapes Go.WideShapes Go.ChangeAt Go.Joins Go.Deep

section
variable {H : Type} {enc : TypeId × Value → H} {w : World} {held : Bool}
theorem rdRow_of {P : Program} {t e E : TypeId} {u : Ty} {fuel : Nat} {v : Value} {x : DataW H × List MemPlace} (ht : P.underlying t = some (.slice e)) (ce : P.cellsOf e = u.n) (hn : 0 < u.n)
    (each : ∀ (n : Nat) (cs : List Value) (y : DataW H × List MemPlace), cs.length = u.n → DataW.trod enc P w 0 (fun _ => true) held n e cs = some y → ∃ d, u.Rd w cs d)
    (h : DataW.trod enc P w 0 (fun _ => true) held fuel t [v] = some x) : ∃ d, (rowTy u E).Rd w [v] d := by
  rcases open_slice ht h with ⟨hcs, _⟩ | ⟨a, len, cap, m, n, D, Pl, hcs, _, hl, hm, hmm, _, hx⟩
  · simp at hcs
    subst hcs
    exact ⟨[], [], none, 0, rfl, by simp, by simp, .inl ⟨rfl, rfl, fun _ => rfl⟩⟩
  · simp at hcs
    subst hcs
    simp only [if_true] at hmm
    have one : ∀ i, i < len → ∃ cs : List Value, cs.length = u.n ∧ (∀ j, j < u.n → w.cell? (a.add (i * u.n + j)) = cs[j]?) ∧ ∃ d, u.Rd w cs d := by
      intro i hi
      obtain ⟨cs', h1, h2⟩ := hx i (by omega)
      rw [ce] at h1
      obtain ⟨_, hlen, hcell⟩ := World.cells?_some h1
      refine ⟨cs', hlen, fun j hj => ?_, each n cs' _ hlen h2⟩
      have := hcell j hj
      rw [add_add] at this
      exact this
    obtain ⟨q, hq⟩ := choose_lt one
    exact rd_row hl (by unfold maxLen at hm; omega) q hn (fun i hi => (hq i hi).1) (fun i hi => (hq i hi).2.1) (fun i hi => (hq i hi).2.2)

end
end Go.Proofs.YtbkkjfgjlapadaaGreat

/-
  What the row's reading says of an array that came in, in these texts' own words: its numbers and flags, and what its two slices read. No condition.
-/
namespace Go.Proofs.YtbkkjfgjlapadaaGreat
open Go.RowKit Go.ChangeShapes Go.WideShapes Go.ChangeAt Go.Joins Go.Deep

section
variable {H : Type} {enc : TypeId × Value → H} {w : World} {held : Bool}


theorem rdMemS_of {fuel : Nat} {v : Value} {x : DataW H × List MemPlace} (h : DataW.trod enc Tryz.prog w 0 (fun _ => true) held fuel 62 [v] = some x) : ∃ d, (tMemS 276 228).Rd w [v] d := by
  refine rdRow_of (e := 228) Tryz.underlying62 (by kernel_rfl) (by decide) (fun n cs y hl hy => ?_) h
  match cs, hl with
  | [v0, v1, v2, v3], _ =>
    obtain ⟨xs, k, _, _, _, hxl, hf⟩ := DataW.trod_struct Tryz.underlying228 hy
    have c1 : Tryz.prog.cellsOf 144 = 1 := by kernel_rfl
    have c2 : Tryz.prog.cellsOf 226 = 1 := by kernel_rfl
    have c3 : Tryz.prog.cellsOf 4 = 1 := by kernel_rfl
    have c4 : Tryz.prog.cellsOf 36 = 1 := by kernel_rfl
    match xs, hxl with
    | [y0, y1, y2, y3], _ =>
      have g0 := hf 0 _ rfl
      have g1 := hf 1 _ rfl
      have g2 := hf 2 _ rfl
      have g3 := hf 3 _ rfl
      simp [c1] at g0
      simp [c2] at g1
      simp [c3] at g2
      simp [c4] at g3
      obtain ⟨ss, r0⟩ := rdIntSS_of Tryz.underlying144 Tryz.underlying36 Tryz.underlying3 (by kernel_rfl) (by kernel_rfl) g0
      obtain ⟨ws, r1⟩ := rdWrS_of (E := 276) Tryz.underlying226 Tryz.underlying276 (by kernel_rfl) rfl rfl (by kernel_rfl) (by kernel_rfl) Tryz.underlying3 Tryz.underlying36 Tryz.underlying3 (by kernel_rfl) g1
      obtain ⟨f, hfb, _⟩ := DataW.trod_bool Tryz.underlying4 g2
      obtain ⟨bs, r3⟩ := rdInts_of Tryz.underlying36 Tryz.underlying3 (by kernel_rfl) g3
      simp at hfb
      subst hfb
      exact ⟨(ss, ws, f, bs), pair_rd_of (vs := [v0]) r0 (pair_rd_of (vs := [v1]) r1 (pair_rd_of (t := boolTy) (vs := [.bool f]) ⟨[], rfl, rfl⟩ r3))⟩

set_option maxRecDepth 20000 in
theorem array13 {cs : Array Value} (h : cs.size = 13) : ∃ c0 c1 c2 c3 c4 c5 c6 c7 c8 c9 c10 c11 c12, cs = #[c0, c1, c2, c3, c4, c5, c6, c7, c8, c9, c10, c11, c12] := by
  obtain ⟨l⟩ := cs
  match l, h with
  | [c0, c1, c2, c3, c4, c5, c6, c7, c8, c9, c10, c11, c12], _ => exact ⟨c0, c1, c2, c3, c4, c5, c6, c7, c8, c9, c10, c11, c12, rfl⟩

set_option maxRecDepth 20000 in
set_option maxHeartbeats 1600000 in
theorem open_arr {r : Reach} {b0 : Nat} {v : Value} {d : DataW H} {p : List MemPlace} (hv : Value.okWide Tryz.prog w r b0 65 v) (h : DataW.Trod enc Tryz.prog w 0 (fun _ => true) held 65 v d p) :
    ∃ (x : ArrN) (am ad : Option Addr) (cm cd : Nat) (ms : List MemD) (ds : List (Int × List Int)), v = .agg #[.int .i64 x.id, .int .i64 x.n, .int .i64 x.s, .slice am ms.length cm, .int .i64 x.lost, .int .i64 x.built, .int .i64 x.seq, .int .i64 x.tail, .int .i64 x.gen, .slice ad ds.length cd, .int .i64 x.fuse, .bool x.down, .bool x.broken] ∧ (tMemS 276 228).Rd w [.slice am ms.length cm] ms ∧ (tWrS 230).Rd w [.slice ad ds.length cd] ds := by
  obtain ⟨cs, rfl, hsz⟩ := okWide_struct Tryz.underlying65 hv
  obtain ⟨c0, c1, c2, c3, c4, c5, c6, c7, c8, c9, c10, c11, c12, rfl⟩ := array13 (hsz.trans (by kernel_rfl))
  obtain ⟨fuel, hf⟩ := h
  obtain ⟨xs, n, _, _, _, hxl, hx⟩ := DataW.trod_struct Tryz.underlying65 hf
  have k3 : Tryz.prog.cellsOf 3 = 1 := by kernel_rfl
  have k4 : Tryz.prog.cellsOf 4 = 1 := by kernel_rfl
  have kG : Tryz.prog.cellsOf 61 = 2 := by kernel_rfl
  have kM : Tryz.prog.cellsOf 62 = 1 := by kernel_rfl
  have kE : Tryz.prog.cellsOf 63 = 1 := by kernel_rfl
  match xs, hxl with
  | [y0, y1, y2, y3, y4, y5, y6, y7, y8, y9, y10, y11], _ =>
    have g0 := hx 0 _ rfl
    have g1 := hx 1 _ rfl
    have g2 := hx 2 _ rfl
    have g3 := hx 3 _ rfl
    have g4 := hx 4 _ rfl
    have g5 := hx 5 _ rfl
    have g6 := hx 6 _ rfl
    have g7 := hx 7 _ rfl
    have g8 := hx 8 _ rfl
    have g9 := hx 9 _ rfl
    have g10 := hx 10 _ rfl
    have g11 := hx 11 _ rfl
    simp [Value.cells, k3] at g0
    simp [Value.cells, kG] at g1
    simp [Value.cells, kM] at g2
    simp [Value.cells, k3] at g3
    simp [Value.cells, k3] at g4
    simp [Value.cells, k3] at g5
    simp [Value.cells, k3] at g6
    simp [Value.cells, k3] at g7
    simp [Value.cells, kE] at g8
    simp [Value.cells, k3] at g9
    simp [Value.cells, k4] at g10
    simp [Value.cells, k4] at g11
    obtain ⟨n0, e0, _, _⟩ := DataW.trod_int Tryz.underlying3 g0
    simp at e0
    subst e0
    obtain ⟨zs, m, _, _, _, hzl, hz⟩ := DataW.trod_struct Tryz.underlying61 g1
    match zs, hzl with
    | [z0, z1], _ =>
    have q0 := hz 0 _ rfl
    have q1 := hz 1 _ rfl
    simp [k3] at q0 q1
    obtain ⟨nn, en, _, _⟩ := DataW.trod_int Tryz.underlying3 q0
    obtain ⟨ns, es, _, _⟩ := DataW.trod_int Tryz.underlying3 q1
    simp at en es
    subst en es
    obtain ⟨ms, r2⟩ := rdMemS_of g2
    obtain ⟨am, cm, rfl⟩ := row_shape r2
    obtain ⟨n3, e3, _, _⟩ := DataW.trod_int Tryz.underlying3 g3
    simp at e3
    subst e3
    obtain ⟨n4, e4, _, _⟩ := DataW.trod_int Tryz.underlying3 g4
    simp at e4
    subst e4
    obtain ⟨n5, e5, _, _⟩ := DataW.trod_int Tryz.underlying3 g5
    simp at e5
    subst e5
    obtain ⟨n6, e6, _, _⟩ := DataW.trod_int Tryz.underlying3 g6
    simp at e6
    subst e6
    obtain ⟨n7, e7, _, _⟩ := DataW.trod_int Tryz.underlying3 g7
    simp at e7
    subst e7
    obtain ⟨ds, r8⟩ := rdWrS_of (E := 230) Tryz.underlying63 Tryz.underlying230 (by kernel_rfl) rfl rfl (by kernel_rfl) (by kernel_rfl) Tryz.underlying3 Tryz.underlying36 Tryz.underlying3 (by kernel_rfl) g8
    obtain ⟨ad, cd, rfl⟩ := row_shape r8
    obtain ⟨n9, e9, _, _⟩ := DataW.trod_int Tryz.underlying3 g9
    simp at e9
    subst e9
    obtain ⟨n10, e10, _⟩ := DataW.trod_bool Tryz.underlying4 g10
    simp at e10
    subst e10
    obtain ⟨n11, e11, _⟩ := DataW.trod_bool Tryz.underlying4 g11
    simp at e11
    subst e11
    exact ⟨⟨n0, nn, ns, n3, n4, n5, n6, n7, n9, n10, n11⟩, am, ad, cm, cd, ms, ds, rfl, r2, r8⟩

end
end Go.Proofs.YtbkkjfgjlapadaaGreat

/-
  What the row's reading says of a command that came in, in these texts' own words: four numbers, and what its slice reads. No condition.
-/
namespace Go.Proofs.YtbkkjfgjlapadaaGreat
open Go.RowKit Go.ChangeShapes Go.WideShapes Go.ChangeAt Go.Joins Go.Deep

section
variable {H : Type} {enc : TypeId × Value → H} {w : World} {held : Bool}

theorem array5 {cs : Array Value} (h : cs.size = 5) : ∃ c0 c1 c2 c3 c4, cs = #[c0, c1, c2, c3, c4] := by
  obtain ⟨l⟩ := cs
  match l, h with
  | [c0, c1, c2, c3, c4], _ => exact ⟨c0, c1, c2, c3, c4, rfl⟩

set_option maxRecDepth 20000 in
theorem open_cmd {r : Reach} {b0 : Nat} {v : Value} {d : DataW H} {p : List MemPlace} (hv : Value.okWide Tryz.prog w r b0 72 v) (h : DataW.Trod enc Tryz.prog w 0 (fun _ => true) held 72 v d p) :
    ∃ (o i b k : Int) (a : Option Addr) (c : Nat) (zs : List Int), v = .agg #[.int .i64 o, .int .i64 i, .int .i64 b, .int .i64 k, .slice a zs.length c] ∧ tIntS.Rd w [.slice a zs.length c] zs := by
  obtain ⟨cs, rfl, hsz⟩ := okWide_struct Tryz.underlying72 hv
  obtain ⟨c0, c1, c2, c3, c4, rfl⟩ := array5 (hsz.trans (by kernel_rfl))
  obtain ⟨fuel, hf⟩ := h
  obtain ⟨xs, n, _, _, _, hxl, hx⟩ := DataW.trod_struct Tryz.underlying72 hf
  have k3 : Tryz.prog.cellsOf 3 = 1 := by kernel_rfl
  have kS : Tryz.prog.cellsOf 36 = 1 := by kernel_rfl
  match xs, hxl with
  | [y0, y1, y2, y3, y4], _ =>
    have g0 := hx 0 _ rfl
    have g1 := hx 1 _ rfl
    have g2 := hx 2 _ rfl
    have g3 := hx 3 _ rfl
    have g4 := hx 4 _ rfl
    simp [Value.cells, k3] at g0
    simp [Value.cells, k3] at g1
    simp [Value.cells, k3] at g2
    simp [Value.cells, k3] at g3
    simp [Value.cells, kS] at g4
    obtain ⟨n0, e0, _, _⟩ := DataW.trod_int Tryz.underlying3 g0
    simp at e0
    subst e0
    obtain ⟨n1, e1, _, _⟩ := DataW.trod_int Tryz.underlying3 g1
    simp at e1
    subst e1
    obtain ⟨n2, e2, _, _⟩ := DataW.trod_int Tryz.underlying3 g2
    simp at e2
    subst e2
    obtain ⟨n3, e3, _, _⟩ := DataW.trod_int Tryz.underlying3 g3
    simp at e3
    subst e3
    obtain ⟨zs, r4⟩ := rdInts_of Tryz.underlying36 Tryz.underlying3 (by kernel_rfl) g4
    obtain ⟨a4, c4, rfl⟩ := row_shape r4
    exact ⟨n0, n1, n2, n3, a4, c4, zs, rfl, r4⟩

end
end Go.Proofs.YtbkkjfgjlapadaaGreat

/-
  What the row's reading says of a slice of commands that came in, in these texts' own words. No condition.
-/
namespace Go.Proofs.YtbkkjfgjlapadaaGreat
open Go.RowKit Go.ChangeShapes Go.WideShapes Go.ChangeAt Go.Joins Go.Deep

section
variable {H : Type} {enc : TypeId × Value → H} {w : World} {held : Bool}
set_option maxRecDepth 20000 in
theorem rdCmdS_of {fuel : Nat} {v : Value} {x : DataW H × List MemPlace} (h : DataW.trod enc Tryz.prog w 0 (fun _ => true) held fuel 66 [v] = some x) : ∃ d, (tCmdS 72).Rd w [v] d := by
  refine rdRow_of (e := 72) Tryz.underlying66 (by kernel_rfl) (by decide) (fun n cs y hl hy => ?_) h
  match cs, hl with
  | [v0, v1, v2, v3, v4], _ =>
    obtain ⟨xs, k, _, _, _, hxl, hf⟩ := DataW.trod_struct Tryz.underlying72 hy
    have k3 : Tryz.prog.cellsOf 3 = 1 := by kernel_rfl
    have kS : Tryz.prog.cellsOf 36 = 1 := by kernel_rfl
    match xs, hxl with
    | [y0, y1, y2, y3, y4], _ =>
      have g0 := hf 0 _ rfl
      have g1 := hf 1 _ rfl
      have g2 := hf 2 _ rfl
      have g3 := hf 3 _ rfl
      have g4 := hf 4 _ rfl
      simp [k3] at g0
      simp [k3] at g1
      simp [k3] at g2
      simp [k3] at g3
      simp [kS] at g4
      obtain ⟨n0, e0, _, _⟩ := DataW.trod_int Tryz.underlying3 g0
      obtain ⟨n1, e1, _, _⟩ := DataW.trod_int Tryz.underlying3 g1
      obtain ⟨n2, e2, _, _⟩ := DataW.trod_int Tryz.underlying3 g2
      obtain ⟨n3, e3, _, _⟩ := DataW.trod_int Tryz.underlying3 g3
      simp at e0 e1 e2 e3
      subst e0 e1 e2 e3
      obtain ⟨zs, r4⟩ := rdInts_of Tryz.underlying36 Tryz.underlying3 (by kernel_rfl) g4
      exact ⟨(n0, n1, n2, n3, zs), int_rd_of (int_rd_of (int_rd_of (int_rd_of r4)))⟩

end
end Go.Proofs.YtbkkjfgjlapadaaGreat

namespace Go.Proofs.YtbkkjfgjlapadaaGreat
open Go.RowKit Go.ChangeShapes Go.WideShapes Go.ChangeAt Go.Joins Go.Deep

section
variable {H : Type} {enc : TypeId × Value → H} {w : World} {held : Bool}
set_option maxRecDepth 20000 in
set_option maxHeartbeats 1600000 in
theorem arr_of {fuel : Nat} {c0 c1 c2 c3 c4 c5 c6 c7 c8 c9 c10 c11 c12 : Value} {y : DataW H × List MemPlace} (hf : DataW.trod enc Tryz.prog w 0 (fun _ => true) held fuel 65 [c0, c1, c2, c3, c4, c5, c6, c7, c8, c9, c10, c11, c12] = some y) :
    ∃ (x : ArrN) (am ad : Option Addr) (cm cd : Nat) (ms : List MemD) (ds : List (Int × List Int)), [c0, c1, c2, c3, c4, c5, c6, c7, c8, c9, c10, c11, c12] = [.int .i64 x.id, .int .i64 x.n, .int .i64 x.s, .slice am ms.length cm, .int .i64 x.lost, .int .i64 x.built, .int .i64 x.seq, .int .i64 x.tail, .int .i64 x.gen, .slice ad ds.length cd, .int .i64 x.fuse, .bool x.down, .bool x.broken] ∧ (tMemS 276 228).Rd w [.slice am ms.length cm] ms ∧ (tWrS 230).Rd w [.slice ad ds.length cd] ds := by
  obtain ⟨xs, n, _, _, _, hxl, hx⟩ := DataW.trod_struct Tryz.underlying65 hf
  have k3 : Tryz.prog.cellsOf 3 = 1 := by kernel_rfl
  have k4 : Tryz.prog.cellsOf 4 = 1 := by kernel_rfl
  have kG : Tryz.prog.cellsOf 61 = 2 := by kernel_rfl
  have kM : Tryz.prog.cellsOf 62 = 1 := by kernel_rfl
  have kE : Tryz.prog.cellsOf 63 = 1 := by kernel_rfl
  match xs, hxl with
  | [y0, y1, y2, y3, y4, y5, y6, y7, y8, y9, y10, y11], _ =>
    have g0 := hx 0 _ rfl
    have g1 := hx 1 _ rfl
    have g2 := hx 2 _ rfl
    have g3 := hx 3 _ rfl
    have g4 := hx 4 _ rfl
    have g5 := hx 5 _ rfl
    have g6 := hx 6 _ rfl
    have g7 := hx 7 _ rfl
    have g8 := hx 8 _ rfl
    have g9 := hx 9 _ rfl
    have g10 := hx 10 _ rfl
    have g11 := hx 11 _ rfl
    simp [k3] at g0
    simp [kG] at g1
    simp [kM] at g2
    simp [k3] at g3
    simp [k3] at g4
    simp [k3] at g5
    simp [k3] at g6
    simp [k3] at g7
    simp [kE] at g8
    simp [k3] at g9
    simp [k4] at g10
    simp [k4] at g11
    obtain ⟨n0, e0, _, _⟩ := DataW.trod_int Tryz.underlying3 g0
    simp at e0
    subst e0
    obtain ⟨zs, m, _, _, _, hzl, hz⟩ := DataW.trod_struct Tryz.underlying61 g1
    match zs, hzl with
    | [z0, z1], _ =>
    have q0 := hz 0 _ rfl
    have q1 := hz 1 _ rfl
    simp [k3] at q0 q1
    obtain ⟨nn, en, _, _⟩ := DataW.trod_int Tryz.underlying3 q0
    obtain ⟨ns, es, _, _⟩ := DataW.trod_int Tryz.underlying3 q1
    simp at en es
    subst en es
    obtain ⟨ms, r2⟩ := rdMemS_of g2
    obtain ⟨am, cm, rfl⟩ := row_shape r2
    obtain ⟨n3, e3, _, _⟩ := DataW.trod_int Tryz.underlying3 g3
    simp at e3
    subst e3
    obtain ⟨n4, e4, _, _⟩ := DataW.trod_int Tryz.underlying3 g4
    simp at e4
    subst e4
    obtain ⟨n5, e5, _, _⟩ := DataW.trod_int Tryz.underlying3 g5
    simp at e5
    subst e5
    obtain ⟨n6, e6, _, _⟩ := DataW.trod_int Tryz.underlying3 g6
    simp at e6
    subst e6
    obtain ⟨n7, e7, _, _⟩ := DataW.trod_int Tryz.underlying3 g7
    simp at e7
    subst e7
    obtain ⟨ds, r8⟩ := rdWrS_of (E := 230) Tryz.underlying63 Tryz.underlying230 (by kernel_rfl) rfl rfl (by kernel_rfl) (by kernel_rfl) Tryz.underlying3 Tryz.underlying36 Tryz.underlying3 (by kernel_rfl) g8
    obtain ⟨ad, cd, rfl⟩ := row_shape r8
    obtain ⟨n9, e9, _, _⟩ := DataW.trod_int Tryz.underlying3 g9
    simp at e9
    subst e9
    obtain ⟨n10, e10, _⟩ := DataW.trod_bool Tryz.underlying4 g10
    simp at e10
    subst e10
    obtain ⟨n11, e11, _⟩ := DataW.trod_bool Tryz.underlying4 g11
    simp at e11
    subst e11
    exact ⟨⟨n0, nn, ns, n3, n4, n5, n6, n7, n9, n10, n11⟩, am, ad, cm, cd, ms, ds, rfl, r2, r8⟩

set_option maxRecDepth 20000 in
theorem cmd_of {fuel : Nat} {v0 v1 v2 v3 v4 : Value} {y : DataW H × List MemPlace} (hy : DataW.trod enc Tryz.prog w 0 (fun _ => true) held fuel 72 [v0, v1, v2, v3, v4] = some y) : ∃ o d b k zs, v0 = .int .i64 o ∧ v1 = .int .i64 d ∧ v2 = .int .i64 b ∧ v3 = .int .i64 k ∧ tIntS.Rd w [v4] zs := by
  obtain ⟨xs, k, _, _, _, hxl, hf⟩ := DataW.trod_struct Tryz.underlying72 hy
  have k3 : Tryz.prog.cellsOf 3 = 1 := by kernel_rfl
  have kS : Tryz.prog.cellsOf 36 = 1 := by kernel_rfl
  match xs, hxl with
  | [y0, y1, y2, y3, y4], _ =>
    have g0 := hf 0 _ rfl
    have g1 := hf 1 _ rfl
    have g2 := hf 2 _ rfl
    have g3 := hf 3 _ rfl
    have g4 := hf 4 _ rfl
    simp [k3] at g0 g1 g2 g3
    simp [kS] at g4
    obtain ⟨n0, e0, _, _⟩ := DataW.trod_int Tryz.underlying3 g0
    obtain ⟨n1, e1, _, _⟩ := DataW.trod_int Tryz.underlying3 g1
    obtain ⟨n2, e2, _, _⟩ := DataW.trod_int Tryz.underlying3 g2
    obtain ⟨n3, e3, _, _⟩ := DataW.trod_int Tryz.underlying3 g3
    simp at e0 e1 e2 e3
    obtain ⟨zs, r4⟩ := rdInts_of Tryz.underlying36 Tryz.underlying3 (by kernel_rfl) g4
    exact ⟨n0, n1, n2, n3, zs, e0, e1, e2, e3, r4⟩
set_option maxRecDepth 20000 in
theorem ans_of {fuel : Nat} {v0 v1 v2 : Value} {y : DataW H × List MemPlace} (hy : DataW.trod enc Tryz.prog w 0 (fun _ => true) held fuel 186 [v0, v1, v2] = some y) : ∃ d c zs, v0 = .int .i64 d ∧ v1 = .int .i64 c ∧ tIntS.Rd w [v2] zs := by
  obtain ⟨xs, k, _, _, _, hxl, hf⟩ := DataW.trod_struct Tryz.underlying186 hy
  have k3 : Tryz.prog.cellsOf 3 = 1 := by kernel_rfl
  have kS : Tryz.prog.cellsOf 36 = 1 := by kernel_rfl
  match xs, hxl with
  | [y0, y1, y2], _ =>
    have g0 := hf 0 _ rfl
    have g1 := hf 1 _ rfl
    have g2 := hf 2 _ rfl
    simp [k3] at g0 g1
    simp [kS] at g2
    obtain ⟨n0, e0, _, _⟩ := DataW.trod_int Tryz.underlying3 g0
    obtain ⟨n1, e1, _, _⟩ := DataW.trod_int Tryz.underlying3 g1
    simp at e0 e1
    obtain ⟨zs, r4⟩ := rdInts_of Tryz.underlying36 Tryz.underlying3 (by kernel_rfl) g2
    exact ⟨n0, n1, zs, e0, e1, r4⟩
set_option maxRecDepth 20000 in
theorem rdAnsS_of {fuel : Nat} {v : Value} {x : DataW H × List MemPlace} (h : DataW.trod enc Tryz.prog w 0 (fun _ => true) held fuel 68 [v] = some x) : ∃ d, (tAnsS 186).Rd w [v] d := by
  refine rdRow_of (e := 186) Tryz.underlying68 (by kernel_rfl) (by decide) (fun n cs y hl hy => ?_) h
  match cs, hl with
  | [v0, v1, v2], _ =>
    obtain ⟨a, b, zs, rfl, rfl, r⟩ := ans_of hy
    exact ⟨(a, b, zs), int_rd_of (int_rd_of r)⟩
set_option maxRecDepth 20000 in
theorem rdJobS_of {fuel : Nat} {v : Value} {x : DataW H × List MemPlace} (h : DataW.trod enc Tryz.prog w 0 (fun _ => true) held fuel 67 [v] = some x) : ∃ d, (tJobS 184).Rd w [v] d := by
  refine rdRow_of (e := 184) Tryz.underlying67 (by kernel_rfl) (by decide) (fun n cs y hl hy => ?_) h
  match cs, hl with
  | [v0, v1, v2, v3, v4, v5, v6, v7], _ =>
    obtain ⟨xs, k, _, _, _, hxl, hf⟩ := DataW.trod_struct Tryz.underlying184 hy
    have k3 : Tryz.prog.cellsOf 3 = 1 := by kernel_rfl
    have kS : Tryz.prog.cellsOf 36 = 1 := by kernel_rfl
    have kC : Tryz.prog.cellsOf 72 = 5 := by kernel_rfl
    match xs, hxl with
    | [y0, y1, y2, y3], _ =>
      have g0 := hf 0 _ rfl
      have g1 := hf 1 _ rfl
      have g2 := hf 2 _ rfl
      have g3 := hf 3 _ rfl
      simp [kC] at g0
      simp [k3] at g1 g3
      simp [kS] at g2
      obtain ⟨o, d, b, q, zs, rfl, rfl, rfl, rfl, r0⟩ := cmd_of g0
      obtain ⟨n1, e1, _, _⟩ := DataW.trod_int Tryz.underlying3 g1
      obtain ⟨n3, e3, _, _⟩ := DataW.trod_int Tryz.underlying3 g3
      simp at e1 e3
      subst e1 e3
      obtain ⟨us, r2⟩ := rdInts_of Tryz.underlying36 Tryz.underlying3 (by kernel_rfl) g2
      exact ⟨(o, d, b, q, zs, n1, us, n3), int_rd_of (int_rd_of (int_rd_of (int_rd_of (ints_rd_of2 r0 (int_rd_of (ints_rd_of2 r2 ⟨[], rfl, rfl⟩))))))⟩
set_option maxRecDepth 20000 in
theorem rdTurnS_of {fuel : Nat} {v : Value} {x : DataW H × List MemPlace} (h : DataW.trod enc Tryz.prog w 0 (fun _ => true) held fuel 69 [v] = some x) : ∃ d, (tTurnS 189).Rd w [v] d := by
  refine rdRow_of (e := 189) Tryz.underlying69 (by kernel_rfl) (by decide) (fun n cs y hl hy => ?_) h
  match cs, hl with
  | [v0, v1, v2, v3, v4, v5, v6, v7], _ =>
    obtain ⟨xs, k, _, _, _, hxl, hf⟩ := DataW.trod_struct Tryz.underlying189 hy
    have kA : Tryz.prog.cellsOf 186 = 3 := by kernel_rfl
    have kC : Tryz.prog.cellsOf 72 = 5 := by kernel_rfl
    match xs, hxl with
    | [y0, y1], _ =>
      have g0 := hf 0 _ rfl
      have g1 := hf 1 _ rfl
      simp [kC] at g0
      simp [kA] at g1
      obtain ⟨o, d, b, q, zs, rfl, rfl, rfl, rfl, r0⟩ := cmd_of g0
      obtain ⟨d2, c2, us, rfl, rfl, r1⟩ := ans_of g1
      exact ⟨(o, d, b, q, zs, d2, c2, us), int_rd_of (int_rd_of (int_rd_of (int_rd_of (ints_rd_of2 r0 (int_rd_of (int_rd_of r1))))))⟩

theorem array17 {cs : Array Value} (h : cs.size = 17) : ∃ c0 c1 c2 c3 c4 c5 c6 c7 c8 c9 c10 c11 c12 c13 c14 c15 c16, cs = #[c0, c1, c2, c3, c4, c5, c6, c7, c8, c9, c10, c11, c12, c13, c14, c15, c16] := by
  obtain ⟨l⟩ := cs
  match l, h with
  | [c0, c1, c2, c3, c4, c5, c6, c7, c8, c9, c10, c11, c12, c13, c14, c15, c16], _ => exact ⟨c0, c1, c2, c3, c4, c5, c6, c7, c8, c9, c10, c11, c12, c13, c14, c15, c16, rfl⟩
set_option maxRecDepth 20000 in
set_option maxHeartbeats 1600000 in
theorem open_eng {r : Reach} {b0 : Nat} {v : Value} {d : DataW H} {p : List MemPlace} (hv : Value.okWide Tryz.prog w r b0 71 v) (h : DataW.Trod enc Tryz.prog w 0 (fun _ => true) held 71 v d p) :
    ∃ (cs : Array Value) (e : EngD), v = .agg cs ∧ EngRd w cs e := by
  obtain ⟨cs, rfl, hsz⟩ := okWide_struct Tryz.underlying71 hv
  obtain ⟨c0, c1, c2, c3, c4, c5, c6, c7, c8, c9, c10, c11, c12, c13, c14, c15, c16, rfl⟩ := array17 (hsz.trans (by kernel_rfl))
  obtain ⟨fuel, hf⟩ := h
  obtain ⟨xs, n, _, _, _, hxl, hx⟩ := DataW.trod_struct Tryz.underlying71 hf
  have kA : Tryz.prog.cellsOf 65 = 13 := by kernel_rfl
  have kW : Tryz.prog.cellsOf 66 = 1 := by kernel_rfl
  have kJ : Tryz.prog.cellsOf 67 = 1 := by kernel_rfl
  have kD : Tryz.prog.cellsOf 68 = 1 := by kernel_rfl
  have kL : Tryz.prog.cellsOf 69 = 1 := by kernel_rfl
  match xs, hxl with
  | [y0, y1, y2, y3, y4], _ =>
    have g0 := hx 0 _ rfl
    have g1 := hx 1 _ rfl
    have g2 := hx 2 _ rfl
    have g3 := hx 3 _ rfl
    have g4 := hx 4 _ rfl
    simp [Value.cells, kA] at g0
    simp [Value.cells, kW] at g1
    simp [Value.cells, kJ] at g2
    simp [Value.cells, kD] at g3
    simp [Value.cells, kL] at g4
    obtain ⟨x, am, ad, cm, cd, ms, ds, hcs, r0, r1⟩ := arr_of g0
    simp only [List.cons.injEq, and_true] at hcs
    obtain ⟨rfl, rfl, rfl, rfl, rfl, rfl, rfl, rfl, rfl, rfl, rfl, rfl, rfl⟩ := hcs
    obtain ⟨ws, r2⟩ := rdCmdS_of g1
    obtain ⟨js, r3⟩ := rdJobS_of g2
    obtain ⟨an, r4⟩ := rdAnsS_of g3
    obtain ⟨ts, r5⟩ := rdTurnS_of g4
    exact ⟨_, ⟨x, ms, ds, ws, js, an, ts⟩, rfl, _, _, _, _, _, _, rfl, pair_rd_of (t := tMemS 214 147) (vs := [_]) r0 (pair_rd_of (t := tWrS 162) (vs := [_]) r1 (pair_rd_of (t := tCmdS 38) (vs := [_]) r2 (pair_rd_of (t := tJobS 92) (vs := [_]) r3 (pair_rd_of (t := tAnsS 55) (vs := [_]) r4 r5))))⟩

end
end Go.Proofs.YtbkkjfgjlapadaaGreat

/-
  The program's look for a job that clashes: over pointers to where jobs stand. Conditions: at most 2097152 words a command.
-/
import Derived.Test.YtgjldmjlbhkgbaaGreatOk15
import Derived.Test.YtgjldmjlbhkgbaaGreatWalkCmdI
import Derived.Test.YtgjldmjlbhkgbaaGreatWalkSuper
namespace Go.Proofs.YtgjldmjlbhkgbaaGreat
open Go.RowKit

/-- Pointers to n jobs, that lie from off on in block b, in a row at pb. -/
def Ptrs (w : World) (pb b off n : Nat) : Prop := pb < w.heap.size ∧ ∀ i, i < n → w.cell? ⟨pb, i, none⟩ = some (.pointer (some ⟨b, off + i * 8, none⟩))
theorem Ptrs.below {w w' : World} {pb b off n : Nat} (h : Ptrs w pb b off n) (hb : Below w.heap.size w w') : Ptrs w' pb b off n := ⟨Nat.lt_of_lt_of_le h.1 hb.size, fun i hi => (hb.cell (p := ⟨pb, i, none⟩) h.1).trans (h.2 i hi)⟩

section
variable {P : Program} {c : Code} {Q : Exit → Act → World → Prop} {a : Act} {w : World} {T T2 : TypeId} {cs cs2 : Array Value}
theorem seal_newC (h : ∀ V, Box V w.heap.size T cs → Below w.heap.size w V → Code.wp P c Q a V) : Code.wp P c Q a (w.alloc (.cells cs T)) := h _ (Box.new _ _ _) (new_below _ _)
theorem seal_new2C (h : ∀ V, Box V w.heap.size T cs → Box V (w.heap.size + 1) T2 cs2 → Below w.heap.size w V → Code.wp P c Q a V) : Code.wp P c Q a ((w.alloc (.cells cs T)).alloc (.cells cs2 T2)) :=
  h _ ((Box.new _ _ _).alloc _) (by have := Box.new (w.alloc (.cells cs T)) T2 cs2; rwa [World.size_alloc] at this) ((new_below _ _).alloc (by simp) _)
end

set_option maxHeartbeats 1600000 in
theorem jobClashes_any (w : World) (gn gs : Int) (b off : Nat) (o d1 b1 k o2 d2 b2 k2 : Int) (a0 a2 : Option Addr) (c0 c2 : Nat) (zs zs2 : List Int) (hb : b < w.heap.size) (h0 : w.cell? ⟨b, off, none⟩ = some (.int .i64 o)) (h1 : w.cell? ⟨b, off + 1, none⟩ = some (.int .i64 d1)) (h2 : w.cell? ⟨b, off + 2, none⟩ = some (.int .i64 b1)) (h3 : w.cell? ⟨b, off + 3, none⟩ = some (.int .i64 k)) (h4 : w.cell? ⟨b, off + 4, none⟩ = some (.slice a0 zs.length c0)) (r0 : tIntS.Rd w [.slice a0 zs.length c0] zs) (r2 : tIntS.Rd w [.slice a2 zs2.length c2] zs2) (hz : zs.length ≤ 2097152) (hz2 : zs2.length ≤ 2097152) :
    Calls Tryz.prog 183 #[.pointer (some ⟨b, off, none⟩), .agg #[.int .i64 gn, .int .i64 gs], .agg #[.int .i64 o2, .int .i64 d2, .int .i64 b2, .int .i64 k2, .slice a2 zs2.length c2]] w fun e w' => e = .returned (.bool (metC (spanC gn gs o d1 b1 k zs) (spanC gn gs o2 d2 b2 k2 zs2))) ∧ Below w.heap.size w w' := by
  go_enter Tryz.func183, Tryz.ntmps183
  go_wp2_with fail
  refine seal_new2C ?_
  intro V A X B
  have e0 := (B.cell (p := ⟨b, off, none⟩) hb).trans h0
  have e1 := (B.cell (p := ⟨b, off + 1, none⟩) hb).trans h1
  have e2 := (B.cell (p := ⟨b, off + 2, none⟩) hb).trans h2
  have e3 := (B.cell (p := ⟨b, off + 3, none⟩) hb).trans h3
  have e4 := (B.cell (p := ⟨b, off + 4, none⟩) hb).trans h4
  obtain ⟨k0, k1⟩ := A.cells2
  obtain ⟨l0, l1, l2, l3, l4⟩ := X.cells5
  have hbv : b < V.heap.size := Nat.lt_of_lt_of_le hb B.size
  have q0 := ints_rd (r0.below B)
  have q2 := ints_rd (r2.below B)
  have Q0 := hidden q0.1
  have Q2 := hidden q2.1
  have lA := A.lt
  have lX := X.lt
  clear q0 q2 h0 h1 h2 h3 h4
  go_region_held3 (fun w' => w'.cell? ⟨b, off, none⟩ = some (.int .i64 o) ∧ w'.cell? ⟨b, off + 1, none⟩ = some (.int .i64 d1) ∧ w'.cell? ⟨b, off + 2, none⟩ = some (.int .i64 b1) ∧ w'.cell? ⟨b, off + 3, none⟩ = some (.int .i64 k) ∧ w'.cell? ⟨b, off + 4, none⟩ = some (.slice a0 zs.length c0) ∧ (∀ o, w'.cell? ⟨w.heap.size, o, none⟩ = V.cell? ⟨w.heap.size, o, none⟩) ∧ (∀ o, w'.cell? ⟨w.heap.size + 1, o, none⟩ = V.cell? ⟨w.heap.size + 1, o, none⟩))
    (first | (exact ⟨(hbC.cell (p := ⟨b, off, none⟩) hbv).trans e0, (hbC.cell (p := ⟨b, off + 1, none⟩) hbv).trans e1, (hbC.cell (p := ⟨b, off + 2, none⟩) hbv).trans e2, (hbC.cell (p := ⟨b, off + 3, none⟩) hbv).trans e3, (hbC.cell (p := ⟨b, off + 4, none⟩) hbv).trans e4, fun o => hbC.cell (p := ⟨w.heap.size, o, none⟩) lA, fun o => hbC.cell (p := ⟨w.heap.size + 1, o, none⟩) lX⟩) | (exact ⟨e0, e1, e2, e3, e4, fun _ => rfl, fun _ => rfl⟩) | go_keep)
    (first | (go_at_call 153; refine (implClash_any _ gn gs o d1 b1 k _ _ _ zs o2 d2 b2 k2 _ _ _ zs2 rfl Q0.out.draw hz rfl Q2.out.draw hz2).mono ?_; rintro e wC ⟨rfl, hbC0⟩; have hbC : Below V.heap.size V wC := (Below.refl V.heap.size V).drew.trans hbC0))
  have HB := Below.andThen B hbC
  go_wp2
  go_ret
  exact ⟨rfl, HB⟩

theorem clos15_any (w : World) (gn gs : Int) (b off Bg Bc : Nat) (T T2 : TypeId) (o d1 b1 k o2 d2 b2 k2 : Int) (a0 a2 : Option Addr) (c0 c2 : Nat) (zs zs2 : List Int) (hb : b < w.heap.size) (h0 : w.cell? ⟨b, off, none⟩ = some (.int .i64 o)) (h1 : w.cell? ⟨b, off + 1, none⟩ = some (.int .i64 d1)) (h2 : w.cell? ⟨b, off + 2, none⟩ = some (.int .i64 b1)) (h3 : w.cell? ⟨b, off + 3, none⟩ = some (.int .i64 k)) (h4 : w.cell? ⟨b, off + 4, none⟩ = some (.slice a0 zs.length c0)) (r0 : tIntS.Rd w [.slice a0 zs.length c0] zs) (r2 : tIntS.Rd w [.slice a2 zs2.length c2] zs2) (hz : zs.length ≤ 2097152) (hz2 : zs2.length ≤ 2097152)
    (G : Box w Bg T #[.int .i64 gn, .int .i64 gs]) (C : Box w Bc T2 #[.int .i64 o2, .int .i64 d2, .int .i64 b2, .int .i64 k2, .slice a2 zs2.length c2]) :
    Calls Tryz.prog 182 #[.pointer (some ⟨b, off, none⟩), .pointer (some ⟨Bg, 0, none⟩), .pointer (some ⟨Bc, 0, none⟩)] w fun e w' => e = .returned (.bool (metC (spanC gn gs o d1 b1 k zs) (spanC gn gs o2 d2 b2 k2 zs2))) ∧ Below w.heap.size w w' := by
  obtain ⟨k0, k1⟩ := G.cells2
  obtain ⟨l0, l1, l2, l3, l4⟩ := C.cells5
  go_enter Tryz.func182, Tryz.ntmps182
  go_wp2_with fail
  refine (jobClashes_any _ gn gs b off o d1 b1 k o2 d2 b2 k2 _ _ _ _ zs zs2 hb h0 h1 h2 h3 h4 r0 r2 hz hz2).mono ?_
  rintro e w1 ⟨rfl, b⟩
  go_wp2
  go_ret
  exact ⟨rfl, b⟩

set_option maxHeartbeats 1600000 in
theorem jobIndex_any (w : World) (gn gs : Int) (pb pc n b off cj Bg Bc : Nat) (T T2 : TypeId) (js : List JobD) (o2 d2 b2 k2 : Int) (a2 : Option Addr) (c2 : Nat) (zs2 : List Int) (hP : Ptrs w pb b off n) (hn : n ≤ js.length) (hJ : (tJobS 0).Rd w [.slice (some ⟨b, off, none⟩) js.length cj] js) (hw : wttJobS js ≤ 2097152) (r2 : tIntS.Rd w [.slice a2 zs2.length c2] zs2) (hz2 : zs2.length ≤ 2097152)
    (G : Box w Bg T #[.int .i64 gn, .int .i64 gs]) (C : Box w Bc T2 #[.int .i64 o2, .int .i64 d2, .int .i64 b2, .int .i64 k2, .slice a2 zs2.length c2]) :
    Calls Tryz.prog 219 #[.slice (some ⟨pb, 0, none⟩) n pc, .func (Fn.func 182) #[] #[.pointer (some ⟨Bg, 0, none⟩), .pointer (some ⟨Bc, 0, none⟩)]] w fun e w' => ((e = .returned (.int .i64 (-1)) ∧ ((js.take n).any fun y => clashD gn gs (jobC y) (o2, d2, b2, k2, zs2)) = false) ∨ ∃ j : Nat, j < n ∧ e = .returned (.int .i64 j) ∧ ((js.take n).any fun y => clashD gn gs (jobC y) (o2, d2, b2, k2, zs2)) = true) ∧ Below w.heap.size w w' := by
  have hjl : js.length ≤ 2097152 := by unfold wttJobS at hw; omega
  go_enter Tryz.func219, Tryz.ntmps219
  go_wp2
  go_loopw [8] (fun i wr => ∃ j : Nat, j ≤ n ∧ i = .int .i64 j ∧ ((js.take j).any fun y => clashD gn gs (jobC y) (o2, d2, b2, k2, zs2)) = false ∧ Below w.heap.size w wr) (fun i _ => n - (intOf i).toNat)
  case atStart => exact ⟨0, Nat.zero_le _, rfl, rfl, Below.refl _ _⟩
  case round =>
    obtain ⟨j, hj, rfl, ht, hb⟩ := hrel
    by_cases hlt : j < n
    · rcases jobS_at (hJ.below hb) with h0' | ⟨bb, oo, hbo, hbl, hcs⟩
      · omega
      simp only [Option.some.injEq, Addr.mk.injEq, and_true] at hbo
      obtain ⟨rfl, rfl⟩ := hbo
      obtain ⟨o, d1, b1, k, zs, t1, gs1, q1, hdj⟩ : ∃ o d1 b1 k zs t1 gs1 q1, js[j]? = some (o, d1, b1, k, zs, t1, gs1, q1) := ⟨_, _, _, _, _, _, _, _, List.getElem?_eq_getElem (by omega)⟩
      have hin := job_inner hdj
      have hlen : zs.length ≤ 2097152 := by unfold wttJobS at hw; simp only [wJob] at hin; omega
      obtain ⟨av0, cv0, av1, cv1, hc0, hc1, hc2, hc3, hc4, hc5, hc6, hc7, hr0, hr1⟩ := hcs j o d1 b1 k zs t1 gs1 q1 hdj
      have hp := (hP.below hb).2 j hlt
      have HIT := hidden (any_hit (p := fun y => clashD gn gs (jobC y) (o2, d2, b2, k2, zs2)) (l := js.take n) (j := j) (x := (o, d1, b1, k, zs, t1, gs1, q1)) (by rw [List.getElem?_take, if_pos hlt]; exact hdj))
      have STP := hidden (any_step (p := fun y => clashD gn gs (jobC y) (o2, d2, b2, k2, zs2)) hdj)
      have HT := hidden ht
      have CALL := hidden (clos15_any wr gn gs b (off + j * 8) Bg Bc T T2 o d1 b1 k o2 d2 b2 k2 _ _ _ _ zs zs2 hbl hc0 hc1 hc2 hc3 hc4 hr0 (r2.below hb) hlen hz2 (G.below hb G.lt) (C.below hb C.lt))
      have eq : clashD gn gs (jobC (o, d1, b1, k, zs, t1, gs1, q1)) (o2, d2, b2, k2, zs2) = metC (spanC gn gs o d1 b1 k zs) (spanC gn gs o2 d2 b2 k2 zs2) := rfl
      clear hcs hdj hc0 hc1 hc2 hc3 hc4 hc5 hc6 hc7 hr0 hr1 hin ht
      have EQ := hidden eq
      clear eq
      cases hm : metC (spanC gn gs o d1 b1 k zs) (spanC gn gs o2 d2 b2 k2 zs2)
      · have HS := hidden (STP.out (by rw [EQ.out, hm]) HT.out)
        rw [hm] at CALL
        clear hm
        go_wp2_with fail
        refine CALL.out.mono ?_
        rintro e w1 ⟨rfl, hb1⟩
        have HB := Below.andThen hb hb1
        go_wp2
        go_roundw
        case rel => exact ⟨j + 1, by omega, by go_num, HS.out, HB⟩
        case measure => simp [intOf]; omega
      · have HS := hidden (HIT.out (by rw [EQ.out, hm]))
        rw [hm] at CALL
        clear hm
        go_wp2_with fail
        refine CALL.out.mono ?_
        rintro e w1 ⟨rfl, hb1⟩
        have HB := Below.andThen hb hb1
        go_wp2
        go_ret
        exact ⟨.inr ⟨j, hlt, rfl, HS.out⟩, HB⟩
    · obtain rfl : j = n := by omega
      have HT := hidden ht
      clear ht
      go_wp2
      go_ret
      exact ⟨.inl ⟨rfl, HT.out⟩, hb⟩

theorem jobHas_any (w : World) (gn gs : Int) (pb pc n b off cj Bg Bc : Nat) (T T2 : TypeId) (js : List JobD) (o2 d2 b2 k2 : Int) (a2 : Option Addr) (c2 : Nat) (zs2 : List Int) (hP : Ptrs w pb b off n) (hn : n ≤ js.length) (hJ : (tJobS 0).Rd w [.slice (some ⟨b, off, none⟩) js.length cj] js) (hw : wttJobS js ≤ 2097152) (r2 : tIntS.Rd w [.slice a2 zs2.length c2] zs2) (hz2 : zs2.length ≤ 2097152)
    (G : Box w Bg T #[.int .i64 gn, .int .i64 gs]) (C : Box w Bc T2 #[.int .i64 o2, .int .i64 d2, .int .i64 b2, .int .i64 k2, .slice a2 zs2.length c2]) :
    Calls Tryz.prog 181 #[.slice (some ⟨pb, 0, none⟩) n pc, .func (Fn.func 182) #[] #[.pointer (some ⟨Bg, 0, none⟩), .pointer (some ⟨Bc, 0, none⟩)]] w fun e w' => e = .returned (.bool ((js.take n).any fun y => clashD gn gs (jobC y) (o2, d2, b2, k2, zs2))) ∧ Below w.heap.size w w' := by
  go_enter Tryz.func181, Tryz.ntmps181
  go_wp2_with fail
  refine (jobIndex_any _ gn gs pb pc n b off cj Bg Bc T T2 js o2 d2 b2 k2 _ _ zs2 hP hn hJ hw r2 hz2 G C).mono ?_
  rintro e w1 ⟨⟨rfl, h⟩ | ⟨j, hj, rfl, h⟩, hs⟩
  · have H := hidden h
    clear h
    go_wp2
    go_ret
    exact ⟨ret_bool (by rw [H.out]), hs⟩
  · have H := hidden h
    have j0 : (0 : Int) ≤ (j : Int) := by omega
    clear h
    go_wp2
    go_ret
    exact ⟨ret_bool (by rw [H.out]), hs⟩

theorem clashesAny_any (w : World) (gn gs : Int) (pb pc n b off cj : Nat) (js : List JobD) (o2 d2 b2 k2 : Int) (a2 : Option Addr) (c2 : Nat) (zs2 : List Int) (hP : Ptrs w pb b off n) (hn : n ≤ js.length) (hJ : (tJobS 0).Rd w [.slice (some ⟨b, off, none⟩) js.length cj] js) (hw : wttJobS js ≤ 2097152) (r2 : tIntS.Rd w [.slice a2 zs2.length c2] zs2) (hz2 : zs2.length ≤ 2097152) :
    Calls Tryz.prog 119 #[.agg #[.int .i64 gn, .int .i64 gs], .agg #[.int .i64 o2, .int .i64 d2, .int .i64 b2, .int .i64 k2, .slice a2 zs2.length c2], .slice (some ⟨pb, 0, none⟩) n pc] w fun e w' => e = .returned (.bool ((js.take n).any fun y => clashD gn gs (jobC y) (o2, d2, b2, k2, zs2))) ∧ Below w.heap.size w w' := by
  go_enter Tryz.func119, Tryz.ntmps119
  go_wp2_with fail
  refine seal_new2 ?_
  intro V A X B
  refine (jobHas_any _ gn gs pb pc n b off cj _ _ _ _ js o2 d2 b2 k2 _ _ zs2 (hP.below B) hn (hJ.below B) hw (r2.below B) hz2 A X).mono ?_
  rintro e w1 ⟨rfl, b1⟩
  have HB := Below.andThen B b1
  go_wp2
  go_ret
  exact ⟨rfl, HB⟩

end Go.Proofs.YtgjldmjlbhkgbaaGreat

/-
  The walk of the law of records: whatever bytes it draws from, it answers true, and nothing that was there has turned. No condition.
-/
import Derived.Test.YtoomkkcobgeinaaLawGetRec
import Derived.Test.YtoomkkcobgeinaaLawPutRec
import Derived.Test.YtoomkkcobgeinaaLawSlotOf
import Derived.Test.YtoomkkcobgeinaaWalkDrawRec
import Derived.Test.YtoomkkcobgeinaaWalkAt
import Derived.Test.YtoomkkcobgeinaaWalkBig
namespace Go.Proofs.Ytoomkkcobgeinaa
open Go.RowKit

set_option maxHeartbeats 1600000 in
theorem sameRec_same (w : World) (x y : Int) (a b : Option Addr) (la ca cb : Nat) (zs : List Int) (hl : zs.length = la) (h : Reads .i64 w a zs) (h' : Reads .i64 w b zs) (hla : la ≤ 2097152) :
    Calls Try.prog 25 #[.agg #[.int .i64 x, .int .i64 y, .slice a la ca], .agg #[.int .i64 x, .int .i64 y, .slice b la cb]] w fun e w' => e = .returned (.bool true) ∧ Below w.heap.size w w' := by
  have hA : Below w.heap.size w ((w.alloc (.cells #[.int .i64 x, .int .i64 y, .slice a la ca] 26)).alloc (.cells #[.int .i64 x, .int .i64 y, .slice b la cb] 26)) := ((Below.refl _ _).alloc (Nat.le_refl _) _).alloc (by simp) _
  have r1 := h.below hA
  have r2 := h'.below hA
  have hd : decide (zs = zs) = true := by simp
  go_enter Try.func25, Try.ntmps25
  go_wp2_with fail
  refine (sameInts_any _ _ _ _ _ _ _ zs zs hl hl r1 r2 hla).mono ?_
  rintro e w1 ⟨rfl, hs1⟩
  go_wp2
  go_ret
  exact ⟨rfl, Below.andSame hA hs1⟩

/-- What is read is right, and has these words. -/
theorem get_put {cs rz : List Int} {rx ry : Int} (h : getRB cs = true) (hv : getRv cs = (rx, ry, rz)) : recB rx ry rz = true ∧ putR rx ry rz = cs := by
  match cs, h, hv with
  | z0 :: z1 :: z2 :: z3 :: ds, h, hv =>
    rw [getRv_of h] at hv
    simp only [Prod.mk.injEq] at hv
    obtain ⟨rfl, rfl, rfl⟩ := hv
    simp only [getRB, Bool.and_eq_true, decide_eq_true_eq] at h
    obtain ⟨rfl, rfl, h3⟩ := h
    exact ⟨h3, putR_of h3⟩
/-- A record comes back of its words. -/
theorem put_get {x y : Int} {ds ps : List Int} (h : recB x y ds = true) (hp : putR x y ds = ps) : getRB ps = true ∧ getRv ps = (x, y, ds) ∧ secB ps = true := by
  rw [putR_of h] at hp
  subst hp
  have hB := getRB_rec.trans h
  refine ⟨hB, getRv_of hB, ?_⟩
  obtain ⟨h1, h2, h3, h4⟩ := recB_of.1 h
  have w1 : isW x = true := by unfold isW; simp; omega
  have w2 : isW y = true := by unfold isW; simp; omega
  have w3 : isW (ds.length : Int) = true := by unfold isW; simp; omega
  have w0 : isW 21322 = true := by decide
  have hl : (21322 :: x :: y :: (ds.length : Int) :: ds).length ≤ 12 := by simp; omega
  unfold allW at h4
  unfold secB allW
  rw [decide_eq_true hl]
  simp only [List.all_cons, w0, w1, w2, w3, h4, Bool.and_self]
theorem slot_in (k : Int) (h : 0 ≤ k) : 2 ≤ slotN k ∧ slotN k < 6 := by unfold slotN; rw [if_pos h]; omega
theorem slot_own (k : Int) (i : Nat) (h : 0 ≤ k) (h0 : 0 < i) (h1 : i < 4) : slotN (k + i) ≠ slotN k := by unfold slotN; rw [if_pos h, if_pos (by omega)]; omega

set_option maxHeartbeats 8000000 in
theorem fnRecs_walk (a0 : Option Addr) (len0 cap0 : Nat) (z0 : List Int) (w : World) (w0 : IsRow .u8 w a0 len0 cap0 z0) :
    Calls Try.prog 3 #[.slice a0 len0 cap0] w fun e w' => e = .returned (.bool true) ∧ Below w.heap.size w w' := by
  obtain ⟨hr, hl, hwf, hml⟩ := w0.reads
  generalize z0.take len0 = zs at hr hl hwf
  unfold maxLen at hml
  have hby := bytes_of_wf hwf
  clear w0 hwf
  by_cases hbig : len0 ≤ 1048576
  rotate_left
  · go_enter Try.func3, Try.ntmps3
    go_wp2_with fail
    refine (big_any _ _ _ _).mono ?_
    rintro e wb ⟨rfl, rfl⟩
    go_wp2
    go_ret
    exact ⟨rfl, Below.refl _ _⟩
  have hlb : len0 ≤ 2097152 := by omega
  go_enter Try.func3, Try.ntmps3
  go_wp2_with fail
  refine (big_any _ _ _ _).mono ?_
  rintro e wb ⟨rfl, rfl⟩
  go_wp2_with fail
  refine (drawPutRec_any _ _ _ _ zs hl hr hby hlb).mono ?_
  rintro e w1 ⟨x, y, av, cv, ds, rfl, hd5, r1, b1⟩
  have B1 := hidden b1
  have D1 := hidden r1
  clear b1 r1
  have ba := new_below w1 (.cells #[.int .i64 x, .int .i64 y, .slice av ds.length cv] 26)
  have BR2 := hidden (Box.new w1 26 #[.int .i64 x, .int .i64 y, .slice av ds.length cv])
  have B2 := hidden (Below.andThen B1.out ba)
  have D2 := hidden (D1.out.below ba)
  clear B1 D1
  have zz2 : w1.heap.size < (w1.alloc (.cells #[.int .i64 x, .int .i64 y, .slice av ds.length cv] 26)).heap.size := BR2.out.lt
  clear ba
  obtain ⟨k0, k1, k2⟩ := BR2.out.cells3
  go_wp2_with fail
  generalize w1.alloc (.cells #[.int .i64 x, .int .i64 y, .slice av ds.length cv] 26) = w2 at B2 D2 BR2 zz2 k0 k1 k2 ⊢
  refine (implPutRec_any _ x y _ _ _ ds rfl D2.out (by omega)).mono ?_
  rintro e w3 ⟨al, ll, cl, rfl, O3, b3⟩
  clear k0 k1 k2
  have B3 := hidden (Below.andThen B2.out b3)
  have D3 := hidden (D2.out.below b3)
  have BR3 := hidden (BR2.out.below b3 BR2.out.lt)
  clear B2 D2 BR2
  clear b3
  obtain ⟨ps, hps⟩ : ∃ ps, putR x y ds = ps := ⟨_, rfl⟩
  have hp8 := putR_le x y ds
  rw [hps] at O3 hp8
  have HP := hidden hps
  clear hps
  obtain ⟨rl3, hll, _, _⟩ := ints_rd O3.rd
  have L3 := hidden O3.rd
  clear O3 rl3
  go_wp2_with fail
  refine (drawGetRec_any _ _ _ _ zs hl (hr.below B3.out) hby hlb).mono ?_
  rintro e w4 ⟨ac, nc, cc, cs, rfl, hn8, rc, b4⟩
  have B4 := hidden (Below.andThen B3.out b4)
  have D4 := hidden (D3.out.below b4)
  have BR4 := hidden (BR3.out.below b4 BR3.out.lt)
  have L4 := hidden (L3.out.below b4)
  clear B3 D3 BR3 L3
  clear b4
  have C4 := hidden rc
  clear rc
  obtain ⟨rx, ry, rz, hv⟩ : ∃ rx ry rz, getRv cs = (rx, ry, rz) := ⟨_, _, _, rfl⟩
  obtain ⟨rb, hrb⟩ : ∃ rb, getRB cs = rb := ⟨_, rfl⟩
  obtain ⟨rn, hrn⟩ : ∃ rn, rz.length = rn := ⟨_, rfl⟩
  have hg4 := getRv_le cs
  rw [hv] at hg4
  have hr4 : rn ≤ 4 := by rw [← hrn]; exact hg4
  have HV := hidden hv
  have HB := hidden hrb
  have HN := hidden hrn
  clear hv hrb hrn hg4
  go_wp2_with fail
  refine (implGetRec_v _ _ _ _ cs C4.out (by omega) HV.out HB.out HN.out).mono ?_
  rintro e w5 ⟨a5, c5, rfl, O5, b5⟩
  have B5 := hidden (Below.andThen B4.out b5)
  have D5 := hidden (D4.out.below b5)
  have BR5 := hidden (BR4.out.below b5 BR4.out.lt)
  have L5 := hidden (L4.out.below b5)
  have C5 := hidden (C4.out.below b5)
  clear B4 D4 BR4 L4 C4
  clear b5
  have Y5 := hidden (ints_rd O5.rd).1
  clear O5
  have ba := new_below w5 (.cells #[.int .i64 rx, .int .i64 ry, .slice a5 rn c5] 26)
  have BY6 := hidden (Box.new w5 26 #[.int .i64 rx, .int .i64 ry, .slice a5 rn c5])
  have B6 := hidden (Below.andThen B5.out ba)
  have D6 := hidden (D5.out.below ba)
  have BR6 := hidden (BR5.out.below ba BR5.out.lt)
  have L6 := hidden (L5.out.below ba)
  have C6 := hidden (C5.out.below ba)
  have Y6 := hidden (Y5.out.below ba)
  clear B5 D5 BR5 L5 C5 Y5
  have zz6 : w5.heap.size < (w5.alloc (.cells #[.int .i64 rx, .int .i64 ry, .slice a5 rn c5] 26)).heap.size := BY6.out.lt
  clear ba
  go_wp2_with fail
  generalize w5.alloc (.cells #[.int .i64 rx, .int .i64 ry, .slice a5 rn c5] 26) = w6 at B6 D6 BR6 L6 C6 Y6 BY6 zz6 ⊢
  refine (specGetRec_v _ _ _ _ cs C6.out (by omega) HV.out HB.out HN.out).mono ?_
  rintro e w7 ⟨a7, c7, rfl, O7, b7⟩
  have B7 := hidden (Below.andThen B6.out b7)
  have D7 := hidden (D6.out.below b7)
  have BR7 := hidden (BR6.out.below b7 BR6.out.lt)
  have L7 := hidden (L6.out.below b7)
  have C7 := hidden (C6.out.below b7)
  have Y7 := hidden (Y6.out.below b7)
  have BY7 := hidden (BY6.out.below b7 BY6.out.lt)
  clear B6 D6 BR6 L6 C6 Y6 BY6
  clear b7 O7
  have ba := new_below w7 (.cells #[.int .i64 rx, .int .i64 ry, .slice a7 rn c7] 26)
  have B8 := hidden (Below.andThen B7.out ba)
  have D8 := hidden (D7.out.below ba)
  have BR8 := hidden (BR7.out.below ba BR7.out.lt)
  have L8 := hidden (L7.out.below ba)
  have C8 := hidden (C7.out.below ba)
  have Y8 := hidden (Y7.out.below ba)
  have BY8 := hidden (BY7.out.below ba BY7.out.lt)
  clear B7 D7 BR7 L7 C7 Y7 BY7
  clear ba
  go_wp2_with fail
  generalize w7.alloc (.cells #[.int .i64 rx, .int .i64 ry, .slice a7 rn c7] 26) = w8 at B8 D8 BR8 L8 C8 Y8 BY8 ⊢
  refine (drawSlotOf_any _ _ _ _ zs hl (hr.below B8.out) hby hlb).mono ?_
  rintro e w9 ⟨n, rfl, b9⟩
  have B9 := hidden (Below.andThen B8.out b9)
  have D9 := hidden (D8.out.below b9)
  have BR9 := hidden (BR8.out.below b9 BR8.out.lt)
  have L9 := hidden (L8.out.below b9)
  have C9 := hidden (C8.out.below b9)
  have Y9 := hidden (Y8.out.below b9)
  have BY9 := hidden (BY8.out.below b9 BY8.out.lt)
  clear B8 D8 BR8 L8 C8 Y8 BY8
  clear b9
  go_wp2_with fail
  refine (drawDataAt_any _ _ _ _ zs hl (hr.below B9.out) hby hlb).mono ?_
  rintro e w10 ⟨s, rfl, b10⟩
  have B10 := hidden (Below.andThen B9.out b10)
  have D10 := hidden (D9.out.below b10)
  have BR10 := hidden (BR9.out.below b10 BR9.out.lt)
  have L10 := hidden (L9.out.below b10)
  have C10 := hidden (C9.out.below b10)
  have Y10 := hidden (Y9.out.below b10)
  have BY10 := hidden (BY9.out.below b10 BY9.out.lt)
  clear B9 D9 BR9 L9 C9 Y9 BY9
  clear b10
  have hs1 : (slotN n != slotN n) = false := by simp
  have hs2 : (dataN s != dataN s) = false := by simp
  have hs3 : (slotN n == slotN n) = true := by simp
  have hs4 : (dataN s == dataN s) = true := by simp
  have hbb : (rb != rb) = false := by simp
  have hbb2 : (rb == rb) = true := by simp
  cases hrbv : rb
  · subst hrbv
    clear C10
    clear Y10
    clear BY10
    go_wp2_with fail
    refine (implSlotOf_any _ _).mono ?_
    rintro e wt ⟨rfl, ht⟩
    obtain rfl := ht.symm
    go_wp2_with fail
    refine (specSlotOf_any _ _).mono ?_
    rintro e wt ⟨rfl, ht⟩
    obtain rfl := ht.symm
    go_wp2_with fail
    refine (implDataAt_any _ _).mono ?_
    rintro e wt ⟨rfl, ht⟩
    obtain rfl := ht.symm
    go_wp2_with fail
    refine (specDataAt_any _ _).mono ?_
    rintro e wt ⟨rfl, ht⟩
    obtain rfl := ht.symm
    go_wp2_with fail
    refine (at_any _ _ _ _ zs 2 hl (hr.below B10.out) hby hlb (by omega)).mono ?_
    rintro e w11 ⟨pk, rfl, hp0, hp1, hs11⟩
    have bs := hs11.below w10.heap.size
    have B11 := hidden (Below.andThen B10.out bs)
    have D11 := hidden (D10.out.below bs)
    have BR11 := hidden (BR10.out.below bs BR10.out.lt)
    have L11 := hidden (L10.out.below bs)
    clear B10 D10 BR10 L10
    clear bs hs11
    have hk : IntKind.i64.wrap (pk * 7) = pk * 7 := IntWalk.i64_in _ (by omega)
    have hk0 : 0 ≤ pk * 7 ∧ pk * 7 ≤ 2000 := by omega
    generalize hkk : pk * 7 = k at hk hk0
    have HK := hidden hk
    clear hk
    have hkk2 := hkk
    have hw7 : IntKind.i64.wrap (pk * 7) = k := by rw [hkk]; exact HK.out
    clear hkk hkk2
    go_wp2
    go_loop [13] (fun i => ∃ j : Nat, j ≤ 4 ∧ i = .int .i64 j) (fun i => 4 - (intOf i).toNat)
    case atStart => exact ⟨0, by omega, rfl⟩
    case round =>
      obtain ⟨j, hj, rfl⟩ := hrel
      by_cases hj4 : j < 4
      · have hkj : IntKind.i64.wrap (k + (j : Int)) = k + (j : Int) := IntWalk.i64_in _ (by omega)
        have S1 := slot_in (k + (j : Int)) (by omega)
        have S2 := slot_in k (by omega)
        have S3 : 0 < j → slotN (k + (j : Int)) ≠ slotN k := fun h0 => slot_own k j (by omega) h0 hj4
        have hd0 : dataN 0 = 6 := by decide
        go_wp2_with fail
        refine (implSlotOf_any _ _).mono ?_
        rintro e wt ⟨rfl, ht⟩
        obtain rfl := ht.symm
        go_wp2_with fail
        refine (implSlotOf_any _ _).mono ?_
        rintro e wt ⟨rfl, ht⟩
        obtain rfl := ht.symm
        go_wp2_with fail
        refine (implDataAt_any _ _).mono ?_
        rintro e wt ⟨rfl, ht⟩
        obtain rfl := ht.symm
        rw [hd0]
        by_cases hj0 : j = 0
        · subst hj0
          go_wp2
          go_round
          case rel => exact ⟨1, by omega, by go_num⟩
          case measure => simp [intOf]
        · have hjp : (0 : Int) < (j : Int) := by omega
          have S4 := S3 (by omega)
          go_wp2_with fail
          refine (implSlotOf_any _ _).mono ?_
          rintro e wt ⟨rfl, ht⟩
          obtain rfl := ht.symm
          go_wp2_with fail
          refine (implSlotOf_any _ _).mono ?_
          rintro e wt ⟨rfl, ht⟩
          obtain rfl := ht.symm
          have S5 : (slotN (k + (j : Int)) == slotN k) = false := by simpa using S4
          go_wp2
          go_round
          case rel => exact ⟨j + 1, by omega, by go_num⟩
          case measure => simp [intOf]; omega
      · clear HK hw7
        obtain ⟨k0, k1, k2⟩ := BR11.out.cells3
        go_wp2_with fail
        refine (specRecOk_any _ x y _ _ _ ds rfl D11.out (by omega)).mono ?_
        rintro e w12 ⟨rfl, b12⟩
        clear k0 k1 k2
        have B12 := hidden (Below.andThen B11.out b12)
        have D12 := hidden (D11.out.below b12)
        have BR12 := hidden (BR11.out.below b12 BR11.out.lt)
        have L12 := hidden (L11.out.below b12)
        clear B11 D11 BR11 L11
        clear b12
        by_cases hrec : recB x y ds = true
        · obtain ⟨g1, g2, g3⟩ := put_get hrec HP.out
          have G1 := hidden g1
          have G2 := hidden g2
          have G3 := hidden g3
          clear g1 g2 g3
          go_wp2_with fail
          refine (implGetRec_v _ _ _ _ ps L12.out (by omega) G2.out G1.out rfl).mono ?_
          rintro e w13 ⟨a13, c13, rfl, o13, b13⟩
          have B13 := hidden (Below.andThen B12.out b13)
          have D13 := hidden (D12.out.below b13)
          have BR13 := hidden (BR12.out.below b13 BR12.out.lt)
          have L13 := hidden (L12.out.below b13)
          clear B12 D12 BR12 L12
          clear b13
          have E13 := hidden (ints_rd o13.rd).1
          clear o13
          have ba := new_below w13 (.cells #[.int .i64 x, .int .i64 y, .slice a13 ds.length c13] 26)
          have BE14 := hidden (Box.new w13 26 #[.int .i64 x, .int .i64 y, .slice a13 ds.length c13])
          have B14 := hidden (Below.andThen B13.out ba)
          have D14 := hidden (D13.out.below ba)
          have BR14 := hidden (BR13.out.below ba BR13.out.lt)
          have L14 := hidden (L13.out.below ba)
          have E14 := hidden (E13.out.below ba)
          clear B13 D13 BR13 L13 E13
          clear ba
          obtain ⟨m0, m1, m2⟩ := BE14.out.cells3
          obtain ⟨k0, k1, k2⟩ := BR14.out.cells3
          go_wp2_with fail
          generalize w13.alloc (.cells #[.int .i64 x, .int .i64 y, .slice a13 ds.length c13] 26) = w14 at B14 D14 BR14 L14 E14 BE14 m0 m1 m2 k0 k1 k2 ⊢
          refine (sameRec_same _ x y _ _ _ _ _ ds rfl E14.out D14.out (by omega)).mono ?_
          rintro e w15 ⟨rfl, b15⟩
          clear k0 k1 k2
          clear m0 m1 m2
          have B15 := hidden (Below.andThen B14.out b15)
          have D15 := hidden (D14.out.below b15)
          have BR15 := hidden (BR14.out.below b15 BR14.out.lt)
          have L15 := hidden (L14.out.below b15)
          have E15 := hidden (E14.out.below b15)
          have BE15 := hidden (BE14.out.below b15 BE14.out.lt)
          clear B14 D14 BR14 L14 E14 BE14
          clear b15
          obtain ⟨k0, k1, k2⟩ := BR15.out.cells3
          go_wp2_with fail
          refine (implRecOk_any _ x y _ _ _ ds rfl D15.out (by omega)).mono ?_
          rintro e w16 ⟨rfl, b16⟩
          clear k0 k1 k2
          have B16 := hidden (Below.andThen B15.out b16)
          have D16 := hidden (D15.out.below b16)
          have BR16 := hidden (BR15.out.below b16 BR15.out.lt)
          have L16 := hidden (L15.out.below b16)
          have E16 := hidden (E15.out.below b16)
          have BE16 := hidden (BE15.out.below b16 BE15.out.lt)
          clear B15 D15 BR15 L15 E15 BE15
          clear b16
          go_wp2_with fail
          refine (implSecOk_any _ _ _ _ ps hll (ints_rd L16.out).1 (by omega)).mono ?_
          rintro e w17 ⟨rfl, hs17⟩
          have gs := G3.out
          have FB := Below.andSame B16.out hs17
          go_wp2
          go_ret
          exact ⟨rfl, FB⟩
        · have hrec' : recB x y ds = false := by simpa using hrec
          have hp0 : ps = [] := HP.out.symm.trans (putR_not hrec')
          have hl0 : ll = 0 := by rw [← hll, hp0]; rfl
          subst hl0
          clear hp0
          obtain ⟨k0, k1, k2⟩ := BR12.out.cells3
          go_wp2_with fail
          refine (implRecOk_any _ x y _ _ _ ds rfl D12.out (by omega)).mono ?_
          rintro e w13 ⟨rfl, b13⟩
          clear k0 k1 k2
          have FB := Below.andThen B12.out b13
          go_wp2
          go_ret
          exact ⟨rfl, FB⟩
  · subst hrbv
    obtain ⟨gr, gp⟩ := get_put HB.out HV.out
    have GP := hidden gp
    clear gp
    obtain ⟨k0, k1, k2⟩ := BY10.out.cells3
    go_wp2_with fail
    refine (implRecOk_any _ rx ry _ _ _ rz HN.out Y10.out (by omega)).mono ?_
    rintro e w11 ⟨rfl, b11⟩
    clear k0 k1 k2
    have B11 := hidden (Below.andThen B10.out b11)
    have D11 := hidden (D10.out.below b11)
    have BR11 := hidden (BR10.out.below b11 BR10.out.lt)
    have L11 := hidden (L10.out.below b11)
    have C11 := hidden (C10.out.below b11)
    have Y11 := hidden (Y10.out.below b11)
    have BY11 := hidden (BY10.out.below b11 BY10.out.lt)
    clear B10 D10 BR10 L10 C10 Y10 BY10
    clear b11
    obtain ⟨k0, k1, k2⟩ := BY11.out.cells3
    go_wp2_with fail
    refine (implPutRec_any _ rx ry _ _ _ rz HN.out Y11.out (by omega)).mono ?_
    rintro e w12 ⟨a12, l12, c12, rfl, o12, b12⟩
    clear k0 k1 k2
    have B12 := hidden (Below.andThen B11.out b12)
    have D12 := hidden (D11.out.below b12)
    have BR12 := hidden (BR11.out.below b12 BR11.out.lt)
    have L12 := hidden (L11.out.below b12)
    have C12 := hidden (C11.out.below b12)
    have Y12 := hidden (Y11.out.below b12)
    have BY12 := hidden (BY11.out.below b12 BY11.out.lt)
    clear B11 D11 BR11 L11 C11 Y11 BY11
    clear b12
    obtain ⟨r12, n12, _, _⟩ := ints_rd C12.out
    obtain ⟨h12, o12'⟩ := own_len2 o12 GP.out n12
    subst h12
    have hd : decide (cs = cs) = true := by simp
    go_wp2_with fail
    refine (sameInts_any _ _ _ _ _ _ _ cs cs n12 n12 (ints_rd o12'.rd).1 r12 (by omega)).mono ?_
    rintro e w13 ⟨rfl, hs13⟩
    have bs := hs13.below w12.heap.size
    clear o12 o12' r12
    have B13 := hidden (Below.andThen B12.out bs)
    have D13 := hidden (D12.out.below bs)
    have BR13 := hidden (BR12.out.below bs BR12.out.lt)
    have L13 := hidden (L12.out.below bs)
    have C13 := hidden (C12.out.below bs)
    have Y13 := hidden (Y12.out.below bs)
    have BY13 := hidden (BY12.out.below bs BY12.out.lt)
    clear B12 D12 BR12 L12 C12 Y12 BY12
    clear bs hs13
    clear C13
    clear Y13
    clear BY13
    go_wp2_with fail
    refine (implSlotOf_any _ _).mono ?_
    rintro e wt ⟨rfl, ht⟩
    obtain rfl := ht.symm
    go_wp2_with fail
    refine (specSlotOf_any _ _).mono ?_
    rintro e wt ⟨rfl, ht⟩
    obtain rfl := ht.symm
    go_wp2_with fail
    refine (implDataAt_any _ _).mono ?_
    rintro e wt ⟨rfl, ht⟩
    obtain rfl := ht.symm
    go_wp2_with fail
    refine (specDataAt_any _ _).mono ?_
    rintro e wt ⟨rfl, ht⟩
    obtain rfl := ht.symm
    go_wp2_with fail
    refine (at_any _ _ _ _ zs 2 hl (hr.below B13.out) hby hlb (by omega)).mono ?_
    rintro e w14 ⟨pk, rfl, hp0, hp1, hs14⟩
    have bs := hs14.below w13.heap.size
    have B14 := hidden (Below.andThen B13.out bs)
    have D14 := hidden (D13.out.below bs)
    have BR14 := hidden (BR13.out.below bs BR13.out.lt)
    have L14 := hidden (L13.out.below bs)
    clear B13 D13 BR13 L13
    clear bs hs14
    have hk : IntKind.i64.wrap (pk * 7) = pk * 7 := IntWalk.i64_in _ (by omega)
    have hk0 : 0 ≤ pk * 7 ∧ pk * 7 ≤ 2000 := by omega
    generalize hkk : pk * 7 = k at hk hk0
    have HK := hidden hk
    clear hk
    have hkk2 := hkk
    have hw7 : IntKind.i64.wrap (pk * 7) = k := by rw [hkk]; exact HK.out
    clear hkk hkk2
    go_wp2
    go_loop [13] (fun i => ∃ j : Nat, j ≤ 4 ∧ i = .int .i64 j) (fun i => 4 - (intOf i).toNat)
    case atStart => exact ⟨0, by omega, rfl⟩
    case round =>
      obtain ⟨j, hj, rfl⟩ := hrel
      by_cases hj4 : j < 4
      · have hkj : IntKind.i64.wrap (k + (j : Int)) = k + (j : Int) := IntWalk.i64_in _ (by omega)
        have S1 := slot_in (k + (j : Int)) (by omega)
        have S2 := slot_in k (by omega)
        have S3 : 0 < j → slotN (k + (j : Int)) ≠ slotN k := fun h0 => slot_own k j (by omega) h0 hj4
        have hd0 : dataN 0 = 6 := by decide
        go_wp2_with fail
        refine (implSlotOf_any _ _).mono ?_
        rintro e wt ⟨rfl, ht⟩
        obtain rfl := ht.symm
        go_wp2_with fail
        refine (implSlotOf_any _ _).mono ?_
        rintro e wt ⟨rfl, ht⟩
        obtain rfl := ht.symm
        go_wp2_with fail
        refine (implDataAt_any _ _).mono ?_
        rintro e wt ⟨rfl, ht⟩
        obtain rfl := ht.symm
        rw [hd0]
        by_cases hj0 : j = 0
        · subst hj0
          go_wp2
          go_round
          case rel => exact ⟨1, by omega, by go_num⟩
          case measure => simp [intOf]
        · have hjp : (0 : Int) < (j : Int) := by omega
          have S4 := S3 (by omega)
          go_wp2_with fail
          refine (implSlotOf_any _ _).mono ?_
          rintro e wt ⟨rfl, ht⟩
          obtain rfl := ht.symm
          go_wp2_with fail
          refine (implSlotOf_any _ _).mono ?_
          rintro e wt ⟨rfl, ht⟩
          obtain rfl := ht.symm
          have S5 : (slotN (k + (j : Int)) == slotN k) = false := by simpa using S4
          go_wp2
          go_round
          case rel => exact ⟨j + 1, by omega, by go_num⟩
          case measure => simp [intOf]; omega
      · clear HK hw7
        obtain ⟨k0, k1, k2⟩ := BR14.out.cells3
        go_wp2_with fail
        refine (specRecOk_any _ x y _ _ _ ds rfl D14.out (by omega)).mono ?_
        rintro e w15 ⟨rfl, b15⟩
        clear k0 k1 k2
        have B15 := hidden (Below.andThen B14.out b15)
        have D15 := hidden (D14.out.below b15)
        have BR15 := hidden (BR14.out.below b15 BR14.out.lt)
        have L15 := hidden (L14.out.below b15)
        clear B14 D14 BR14 L14
        clear b15
        by_cases hrec : recB x y ds = true
        · obtain ⟨g1, g2, g3⟩ := put_get hrec HP.out
          have G1 := hidden g1
          have G2 := hidden g2
          have G3 := hidden g3
          clear g1 g2 g3
          go_wp2_with fail
          refine (implGetRec_v _ _ _ _ ps L15.out (by omega) G2.out G1.out rfl).mono ?_
          rintro e w16 ⟨a16, c16, rfl, o16, b16⟩
          have B16 := hidden (Below.andThen B15.out b16)
          have D16 := hidden (D15.out.below b16)
          have BR16 := hidden (BR15.out.below b16 BR15.out.lt)
          have L16 := hidden (L15.out.below b16)
          clear B15 D15 BR15 L15
          clear b16
          have E16 := hidden (ints_rd o16.rd).1
          clear o16
          have ba := new_below w16 (.cells #[.int .i64 x, .int .i64 y, .slice a16 ds.length c16] 26)
          have BE17 := hidden (Box.new w16 26 #[.int .i64 x, .int .i64 y, .slice a16 ds.length c16])
          have B17 := hidden (Below.andThen B16.out ba)
          have D17 := hidden (D16.out.below ba)
          have BR17 := hidden (BR16.out.below ba BR16.out.lt)
          have L17 := hidden (L16.out.below ba)
          have E17 := hidden (E16.out.below ba)
          clear B16 D16 BR16 L16 E16
          clear ba
          obtain ⟨m0, m1, m2⟩ := BE17.out.cells3
          obtain ⟨k0, k1, k2⟩ := BR17.out.cells3
          go_wp2_with fail
          generalize w16.alloc (.cells #[.int .i64 x, .int .i64 y, .slice a16 ds.length c16] 26) = w17 at B17 D17 BR17 L17 E17 BE17 m0 m1 m2 k0 k1 k2 ⊢
          refine (sameRec_same _ x y _ _ _ _ _ ds rfl E17.out D17.out (by omega)).mono ?_
          rintro e w18 ⟨rfl, b18⟩
          clear k0 k1 k2
          clear m0 m1 m2
          have B18 := hidden (Below.andThen B17.out b18)
          have D18 := hidden (D17.out.below b18)
          have BR18 := hidden (BR17.out.below b18 BR17.out.lt)
          have L18 := hidden (L17.out.below b18)
          have E18 := hidden (E17.out.below b18)
          have BE18 := hidden (BE17.out.below b18 BE17.out.lt)
          clear B17 D17 BR17 L17 E17 BE17
          clear b18
          obtain ⟨k0, k1, k2⟩ := BR18.out.cells3
          go_wp2_with fail
          refine (implRecOk_any _ x y _ _ _ ds rfl D18.out (by omega)).mono ?_
          rintro e w19 ⟨rfl, b19⟩
          clear k0 k1 k2
          have B19 := hidden (Below.andThen B18.out b19)
          have D19 := hidden (D18.out.below b19)
          have BR19 := hidden (BR18.out.below b19 BR18.out.lt)
          have L19 := hidden (L18.out.below b19)
          have E19 := hidden (E18.out.below b19)
          have BE19 := hidden (BE18.out.below b19 BE18.out.lt)
          clear B18 D18 BR18 L18 E18 BE18
          clear b19
          go_wp2_with fail
          refine (implSecOk_any _ _ _ _ ps hll (ints_rd L19.out).1 (by omega)).mono ?_
          rintro e w20 ⟨rfl, hs20⟩
          have gs := G3.out
          have FB := Below.andSame B19.out hs20
          go_wp2
          go_ret
          exact ⟨rfl, FB⟩
        · have hrec' : recB x y ds = false := by simpa using hrec
          have hp0 : ps = [] := HP.out.symm.trans (putR_not hrec')
          have hl0 : ll = 0 := by rw [← hll, hp0]; rfl
          subst hl0
          clear hp0
          obtain ⟨k0, k1, k2⟩ := BR15.out.cells3
          go_wp2_with fail
          refine (implRecOk_any _ x y _ _ _ ds rfl D15.out (by omega)).mono ?_
          rintro e w16 ⟨rfl, b16⟩
          clear k0 k1 k2
          have FB := Below.andThen B15.out b16
          go_wp2
          go_ret
          exact ⟨rfl, FB⟩

end Go.Proofs.Ytoomkkcobgeinaa

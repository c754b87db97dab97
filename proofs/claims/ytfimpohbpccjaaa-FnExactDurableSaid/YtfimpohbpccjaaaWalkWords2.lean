/-
  The words of a stripe (words6: of one disk at most that of the others), and the walks of the specification's looks for them. Condition: the array weighs at most 2097152.
-/
import Derived.Test.YtfimpohbpccjaaaWalkWords
import Derived.Test.YtfimpohbpccjaaaWalkMissing
namespace Go.Proofs.Ytfimpohbpccjaaa
open Go.RowKit

def wordL (x : ArrN) (ms : List MemD) (s : Int) (j : Nat) : List Int := (List.range j).map fun (i : Nat) => word6 x ms (i : Int) s
def missL (x : ArrN) (ms : List MemD) (s : Int) (j : Nat) : List Nat := (List.range j).filter fun (i : Nat) => !has6 x ms (i : Int) s
def lostN : List Nat → Int
  | [] => -1
  | p :: _ => (p : Int)
def wordsB (x : ArrN) (ms : List MemD) (s : Int) : Bool := decide ((missL x ms s x.n.toNat).length ≤ 1)
def words6 (x : ArrN) (ms : List MemD) (s : Int) : List Int :=
  match missL x ms s x.n.toNat with
  | [] => wordL x ms s x.n.toNat
  | [p] => (wordL x ms s x.n.toNat).set p (skipL (wordL x ms s x.n.toNat) (p : Int) x.n.toNat)
  | _ => []
theorem wordL_succ (x : ArrN) (ms : List MemD) (s : Int) (j : Nat) : wordL x ms s (j + 1) = wordL x ms s j ++ [word6 x ms (j : Int) s] := by unfold wordL; rw [List.range_succ, List.map_append]; rfl
theorem wordL_len (x : ArrN) (ms : List MemD) (s : Int) (j : Nat) : (wordL x ms s j).length = j := by unfold wordL; simp
theorem missL_yes {x : ArrN} {ms : List MemD} {s : Int} {j : Nat} (h : has6 x ms (j : Int) s = true) : missL x ms s (j + 1) = missL x ms s j := by unfold missL; rw [List.range_succ, List.filter_append]; simp [h]
theorem missL_no {x : ArrN} {ms : List MemD} {s : Int} {j : Nat} (h : has6 x ms (j : Int) s = false) : missL x ms s (j + 1) = missL x ms s j ++ [j] := by unfold missL; rw [List.range_succ, List.filter_append]; simp [h]
theorem missL_mono (x : ArrN) (ms : List MemD) (s : Int) (j k : Nat) (h : j ≤ k) : (missL x ms s j).length ≤ (missL x ms s k).length := by
  induction k with
  | zero => obtain rfl : j = 0 := by omega
            exact Nat.le_refl _
  | succ k ih =>
    rcases Nat.lt_or_ge k j with h1 | h1
    · obtain rfl : j = k + 1 := by omega
      exact Nat.le_refl _
    · refine Nat.le_trans (ih h1) ?_
      cases hh : has6 x ms (k : Int) s with
      | true => rw [missL_yes hh]; exact Nat.le_refl _
      | false => rw [missL_no hh]; simp
theorem missL_lt {x : ArrN} {ms : List MemD} {s : Int} {j p : Nat} (h : p ∈ missL x ms s j) : p < j := by
  unfold missL at h
  exact List.mem_range.1 (List.mem_filter.1 h).1
theorem words_two {x : ArrN} {ms : List MemD} {s : Int} {j : Nat} (h : 2 ≤ (missL x ms s j).length) (hj : j ≤ x.n.toNat) : wordsB x ms s = false ∧ words6 x ms s = [] := by
  have h2 := Nat.le_trans h (missL_mono x ms s j x.n.toNat hj)
  refine ⟨by unfold wordsB; simp; omega, ?_⟩
  unfold words6
  match hm : missL x ms s x.n.toNat, h2 with
  | _ :: _ :: _, _ => rfl
theorem words_none {x : ArrN} {ms : List MemD} {s : Int} (h : missL x ms s x.n.toNat = []) : wordsB x ms s = true ∧ words6 x ms s = wordL x ms s x.n.toNat := by
  refine ⟨by unfold wordsB; rw [h]; rfl, ?_⟩
  unfold words6
  rw [h]
theorem words_one {x : ArrN} {ms : List MemD} {s : Int} {p : Nat} (h : missL x ms s x.n.toNat = [p]) : wordsB x ms s = true ∧ words6 x ms s = (wordL x ms s x.n.toNat).set p (skipL (wordL x ms s x.n.toNat) (p : Int) x.n.toNat) := by
  refine ⟨by unfold wordsB; rw [h]; rfl, ?_⟩
  unfold words6
  rw [h]
theorem owns_some6 {k : IntKind} {E : TypeId} {w : World} {lo : Nat} {v : Value} {zs : List Int} (h : Owns k E w lo v zs) (hn : 0 < zs.length) : ∃ g cap, v = .slice (some ⟨g, 0, none⟩) zs.length cap ∧ lo ≤ g ∧ g < w.heap.size ∧ zs.length ≤ cap ∧ cap ≤ maxLen := by
  rcases h.2 with ⟨_, h0⟩ | ⟨g, cap, cur, hv, hb, hg, hnc, hcm, _⟩
  · omega
  · exact ⟨g, cap, hv, hb, (Array.getElem?_eq_some_iff.1 hg).1, hnc, hcm⟩
theorem list_cases {l : List Nat} (h : l.length ≤ 1) : l = [] ∨ ∃ p, l = [p] := by
  match l, h with
  | [], _ => exact .inl rfl
  | [p], _ => exact .inr ⟨p, rfl⟩

set_option maxRecDepth 20000 in
set_option maxHeartbeats 1000000 in
theorem l6Words_any (w : World) (E F : TypeId) (x : ArrN) (am ad : Option Addr) (nm cm nd cd : Nat) (ms : List MemD) (s : Int) (h0 : (tMemS E F).Rd w [.slice am nm cm] ms) (hw : wtMemS ms ≤ 2097152) (hg : geoB x.n x.s = true) :
    Calls Try.prog 38 #[.agg #[.int .i64 x.id, .int .i64 x.n, .int .i64 x.s, .slice am nm cm, .int .i64 x.lost, .int .i64 x.built, .int .i64 x.seq, .int .i64 x.tail, .int .i64 x.gen, .slice ad nd cd, .int .i64 x.fuse, .bool x.down, .bool x.broken], .int .i64 s] w fun e w' => ∃ a' l' c', e = .returned (.tuple #[.slice a' l' c', .bool (wordsB x ms s)]) ∧ tIntS.Own w' w.heap.size w'.heap.size [.slice a' l' c'] (words6 x ms s) ∧ Below w.heap.size w w' := by
  obtain ⟨g1, g2, g3, g4⟩ := geoB_iff.1 hg
  obtain ⟨n, hn⟩ : ∃ n : Nat, x.n = (n : Int) := ⟨x.n.toNat, by omega⟩
  have hnt : x.n.toNat = n := by omega
  have HN := hidden hn
  have HNT := hidden hnt
  have hn5 : n ≤ 5 := by omega
  clear hn hnt
  obtain ⟨i0, hi, hz0, hz1, hz2⟩ := info_parts Try.info3
  have hA := new_below w (.cells #[.int .i64 x.id, .int .i64 x.n, .int .i64 x.s, .slice am nm cm, .int .i64 x.lost, .int .i64 x.built, .int .i64 x.seq, .int .i64 x.tail, .int .i64 x.gen, .slice ad nd cd, .int .i64 x.fuse, .bool x.down, .bool x.broken] 34)
  have X := Box.new w 34 #[.int .i64 x.id, .int .i64 x.n, .int .i64 x.s, .slice am nm cm, .int .i64 x.lost, .int .i64 x.built, .int .i64 x.seq, .int .i64 x.tail, .int .i64 x.gen, .slice ad nd cd, .int .i64 x.fuse, .bool x.down, .bool x.broken]
  have zA := X.lt
  have h1 := h0.below hA
  go_enter Try.func38, Try.ntmps38
  go_wp2
  have zW : (w.alloc (.cells #[.int .i64 x.id, .int .i64 x.n, .int .i64 x.s, .slice am nm cm, .int .i64 x.lost, .int .i64 x.built, .int .i64 x.seq, .int .i64 x.tail, .int .i64 x.gen, .slice ad nd cd, .int .i64 x.fuse, .bool x.down, .bool x.broken] 34)).heap.size = w.heap.size + 1 := by simp
  have ZW := hidden zW
  clear zW
  generalize w.alloc (.cells #[.int .i64 x.id, .int .i64 x.n, .int .i64 x.s, .slice am nm cm, .int .i64 x.lost, .int .i64 x.built, .int .i64 x.seq, .int .i64 x.tail, .int .i64 x.gen, .slice ad nd cd, .int .i64 x.fuse, .bool x.down, .bool x.broken] 34) = W at hA X zA h1 ZW ⊢
  have hO : Owns .i64 3 (W.alloc (.cells #[] 3)) W.heap.size (.slice (some ⟨W.heap.size, 0, none⟩) 0 0) [] := Owns.lit .i64 3 W [] 0 #[] rfl rfl (by unfold maxLen; omega)
  go_loopw [6, 7, 8] (fun v lo i wr => ∃ j : Nat, j ≤ n ∧ i = .int .i64 j ∧ lo = .int .i64 (lostN (missL x ms s j)) ∧ (missL x ms s j).length ≤ 1 ∧ Owns .i64 3 wr W.heap.size v (wordL x ms s j) ∧ Below W.heap.size W wr) (fun _ _ i _ => n - (intOf i).toNat)
  case atStart => exact ⟨0, Nat.zero_le _, rfl, rfl, Nat.zero_le _, by first | exact hO | (rw [ZW.out] at hO; rw [ZW.out]; exact hO), (Below.refl _ _).alloc (Nat.le_refl _) _⟩
  case round =>
    obtain ⟨j, hj, rfl, rfl, hm1, ho, hb⟩ := hrel
    have Xr := X.below hb zA
    obtain ⟨k0, k1, k2, k3, k4, k5, k6, k7, k8, k9, k10, k11, k12⟩ := Xr.cells13
    have zs := hb.size
    by_cases hjn : j < n
    · have hlt : (j : Int) < x.n := by have := HN.out; omega
      go_wp2_with fail
      refine (l6Word_any _ E F x _ _ _ _ _ _ ms (j : Int) s (h1.below hb) hw).mono ?_
      rintro e w1 ⟨rfl, b1⟩
      have X1 := Xr.below b1 Xr.lt
      have B1 := hb.trans (b1.mono hb.size)
      have o1 := ho.below b1 (Nat.le_refl _)
      have z1 := b1.size
      clear k0 k1 k2 k3 k4 k5 k6 k7 k8 k9 k10 k11 k12 Xr b1 ho hb
      have hs1 := wordL_succ x ms s j
      have hlen := wordL_len x ms s j
      cases hh : has6 x ms (j : Int) s
      · have hmn := missL_no hh
        rcases list_cases hm1 with h00 | ⟨p, hp⟩
        · have hl0 : lostN (missL x ms s j) = -1 := by rw [h00]; rfl
          have hl1 : lostN (missL x ms s (j + 1)) = (j : Int) := by rw [hmn, h00]; rfl
          have hc1 : (missL x ms s (j + 1)).length ≤ 1 := by rw [hmn, h00]; exact Nat.le_refl _
          have HL1 := hidden hl1
          have HC1 := hidden hc1
          rw [hl0]
          clear hmn h00 hl0 hl1 hc1
          generalize word6 x ms (j : Int) s = y at hs1 ⊢
          have HS := hidden hs1
          clear hs1
          go_wp2_with (at_builtin; refine wpList_app .i64 (by rfl) _ _ 38 (by rfl) W.heap.size 3 i0 _ 8 Try.underlying38 hi hz0 hz1 hz2 rfl _ (wordL x ms s j) (by rfl) (o1.alloc _) ⟨w1.heap.size, 0, none⟩ 1 1 [y] (by rfl) rfl (Reads.new _ _ _ _ _ rfl) ?h1 ?h2 ?h3 ?_)
          case h1 => unfold maxLen; omega
          case h2 => omega
          case h3 => simp; omega
          intro v' w2 o2 b2
          have B2 := hidden ((B1.alloc B1.size (.cells #[.int .i64 y] 3)).trans b2)
          rw [← HS.out] at o2
          have O2 := hidden o2
          clear b2 o2 o1 B1
          go_wp2
          go_roundw
          case rel => exact ⟨j + 1, by omega, by go_num, by rw [HL1.out], HC1.out, O2.out, B2.out⟩
          case measure => simp [intOf]; omega
        · have hl0 : lostN (missL x ms s j) = (p : Int) := by rw [hp]; rfl
          obtain ⟨t1, t2⟩ := words_two (x := x) (ms := ms) (s := s) (j := j + 1) (by rw [hmn, hp]; exact Nat.le_refl _) (by have := HNT.out; omega)
          have HT1 := hidden t1
          have HT2 := hidden t2
          rw [hl0]
          clear hmn hp hl0 t1 t2 hs1
          have hp0 : (0 : Int) ≤ (p : Int) := by omega
          have FO := hidden ((own_ints (Owns.lit .i64 3 w1 [] 0 #[] rfl rfl (by unfold maxLen; omega))).widen (lo' := w.heap.size) (by omega) (Nat.le_refl _))
          have FB := hidden (hA.trans ((B1.alloc B1.size (.cells #[] 3)).mono hA.size))
          go_wp2
          refine bodyPost_ret (v := .tuple #[.slice (some ⟨w1.heap.size, 0, none⟩) 0 0, .bool false]) (by simp [results, Try.results38, go_sem]) rfl ?_
          exact ⟨_, _, _, by rw [HT1.out], by rw [HT2.out]; exact FO.out, FB.out⟩
      · have hmy := missL_yes hh
        have HL1 : Hid (lostN (missL x ms s (j + 1)) = lostN (missL x ms s j)) := by unfold Hid; rw [hmy]
        have HC1 : Hid ((missL x ms s (j + 1)).length ≤ 1) := by unfold Hid; rw [hmy]; exact hm1
        clear hmy
        generalize word6 x ms (j : Int) s = y at hs1 ⊢
        have HS := hidden hs1
        clear hs1
        go_wp2_with (at_builtin; refine wpList_app .i64 (by rfl) _ _ 38 (by rfl) W.heap.size 3 i0 _ 8 Try.underlying38 hi hz0 hz1 hz2 rfl _ (wordL x ms s j) (by rfl) (o1.alloc _) ⟨w1.heap.size, 0, none⟩ 1 1 [y] (by rfl) rfl (Reads.new _ _ _ _ _ rfl) ?h1 ?h2 ?h3 ?_)
        case h1 => unfold maxLen; omega
        case h2 => omega
        case h3 => simp; omega
        intro v' w2 o2 b2
        have B2 := hidden ((B1.alloc B1.size (.cells #[.int .i64 y] 3)).trans b2)
        rw [← HS.out] at o2
        have O2 := hidden o2
        clear b2 o2 o1 B1
        go_wp2
        go_roundw
        case rel => exact ⟨j + 1, by omega, by go_num, by rw [HL1.out], HC1.out, O2.out, B2.out⟩
        case measure => simp [intOf]; omega
    · have ej : j = n := by omega
      subst ej
      have hge : x.n ≤ (j : Int) := by have := HN.out; omega
      have hlen := wordL_len x ms s j
      rcases list_cases hm1 with h00 | ⟨p, hp⟩
      · have hl0 : lostN (missL x ms s j) = -1 := by rw [h00]; rfl
        obtain ⟨t1, t2⟩ := words_none (x := x) (ms := ms) (s := s) (by rw [HNT.out]; exact h00)
        rw [HNT.out] at t2
        have HT1 := hidden t1
        have HT2 := hidden t2
        rw [hl0]
        clear h00 hl0 t1 t2
        obtain ⟨go, co, hv, hgl, hgh, hlc, hcm⟩ := owns_some6 ho (by have := HN.out; omega)
        rw [hlen] at hv hlc
        subst hv
        have FO := hidden ((own_ints ho).widen (lo' := w.heap.size) (by omega) (Nat.le_refl _))
        have FB := hidden (hA.trans (hb.mono hA.size))
        clear ho hb Xr hlen hm1 hcm hlc hj hjn hgh
        go_wp2
        refine bodyPost_ret (v := .tuple #[.slice (some ⟨go, 0, none⟩) j co, .bool true]) (by simp [results, Try.results38, go_sem]) rfl ?_
        exact ⟨_, _, _, by rw [HT1.out], by rw [HT2.out]; exact FO.out, FB.out⟩
      · have hl0 : lostN (missL x ms s j) = (p : Int) := by rw [hp]; rfl
        have hpj : p < j := missL_lt (x := x) (ms := ms) (s := s) (by rw [hp]; simp)
        obtain ⟨t1, t2⟩ := words_one (x := x) (ms := ms) (s := s) (p := p) (by rw [HNT.out]; exact hp)
        rw [HNT.out] at t2
        have HT1 := hidden t1
        have HT2 := hidden t2
        rw [hl0]
        clear hp hl0 t1 t2
        have hp0 : (0 : Int) ≤ (p : Int) := by omega
        have hp1 : (p : Int) < (j : Int) := by omega
        obtain ⟨go, co, hv, hgl, hgh, hlc, hcm⟩ := owns_some6 ho (by omega)
        rw [hlen] at hv hlc
        subst hv
        go_wp2_with fail
        refine (specMissingWord_any _ _ _ _ (wordL x ms s j) (p : Int) hlen ho.reads (by omega)).mono ?_
        rintro e w1 ⟨rfl, hs1⟩
        have O1 := ho.own.same hs1
        have B1 := hb.trans (hs1.below _)
        have z1 := hs1.size
        obtain ⟨c1, f1, O2, t2⟩ := O1.store p hpj (skipL (wordL x ms s j) (p : Int) j)
        have FO := hidden ((own_ints O2.1).widen (lo' := w.heap.size) (by omega) (Nat.le_refl _))
        have FB := hidden (hA.trans ((B1.trans (t2.below (B := W.heap.size) (Nat.le_refl _) B1.size)).mono hA.size))
        generalize (wordL x ms s j).getD p 0 = y at c1
        generalize skipL (wordL x ms s j) (p : Int) j = q at FO FB HT2 ⊢
        clear O1 O2 t2 ho hb hs1 Xr
        go_wp2
        refine bodyPost_ret (v := .tuple #[.slice (some ⟨go, 0, none⟩) j co, .bool true]) (by simp [results, Try.results38, go_sem]) rfl ?_
        exact ⟨_, _, _, by rw [HT1.out], by rw [HT2.out]; exact FO.out, FB.out⟩

def okB6 (x : ArrN) (ms : List MemD) (ds : List (Int × List Int)) (s : Int) : Bool := arrB x ms ds && (!x.broken && inB s 0 (x.s - 1))
def wordsOk6 (x : ArrN) (ms : List MemD) (ds : List (Int × List Int)) (s : Int) : Bool := okB6 x ms ds s && wordsB {x with broken := false} ms s
def wordsL6 (x : ArrN) (ms : List MemD) (ds : List (Int × List Int)) (s : Int) : List Int := if okB6 x ms ds s = true then words6 {x with broken := false} ms s else []

set_option maxRecDepth 20000 in
set_option maxHeartbeats 1000000 in
theorem specWords_any (w : World) (E F G : TypeId) (x : ArrN) (am ad : Option Addr) (nm cm nd cd : Nat) (ms : List MemD) (ds : List (Int × List Int)) (s : Int) (h0 : (tMemS E F).Rd w [.slice am nm cm] ms) (h1 : (tWrS G).Rd w [.slice ad nd cd] ds) (hw : wtArr ms ds ≤ 2097152) :
    Calls Try.prog 13 #[.agg #[.int .i64 x.id, .int .i64 x.n, .int .i64 x.s, .slice am nm cm, .int .i64 x.lost, .int .i64 x.built, .int .i64 x.seq, .int .i64 x.tail, .int .i64 x.gen, .slice ad nd cd, .int .i64 x.fuse, .bool x.down, .bool x.broken], .int .i64 s] w fun e w' => ∃ a' l' c', e = .returned (.tuple #[.slice a' l' c', .bool (wordsOk6 x ms ds s)]) ∧ tIntS.Own w' w.heap.size w'.heap.size [.slice a' l' c'] (wordsL6 x ms ds s) ∧ Below w.heap.size w w' := by
  have hwm : wtMemS ms ≤ 2097152 := by unfold wtArr at hw; omega
  have hA := new_below w (.cells #[.int .i64 x.id, .int .i64 x.n, .int .i64 x.s, .slice am nm cm, .int .i64 x.lost, .int .i64 x.built, .int .i64 x.seq, .int .i64 x.tail, .int .i64 x.gen, .slice ad nd cd, .int .i64 x.fuse, .bool x.down, .bool x.broken] 34)
  have X := Box.new w 34 #[.int .i64 x.id, .int .i64 x.n, .int .i64 x.s, .slice am nm cm, .int .i64 x.lost, .int .i64 x.built, .int .i64 x.seq, .int .i64 x.tail, .int .i64 x.gen, .slice ad nd cd, .int .i64 x.fuse, .bool x.down, .bool x.broken]
  obtain ⟨k0, k1, k2, k3, k4, k5, k6, k7, k8, k9, k10, k11, k12⟩ := X.cells13
  have zA := X.lt
  have r0 := h0.below hA
  have r1 := h1.below hA
  go_enter Try.func13, Try.ntmps13
  go_wp2_with fail
  generalize w.alloc (.cells #[.int .i64 x.id, .int .i64 x.n, .int .i64 x.s, .slice am nm cm, .int .i64 x.lost, .int .i64 x.built, .int .i64 x.seq, .int .i64 x.tail, .int .i64 x.gen, .slice ad nd cd, .int .i64 x.fuse, .bool x.down, .bool x.broken] 34) = W at hA X zA r0 r1 k0 k1 k2 k3 k4 k5 k6 k7 k8 k9 k10 k11 k12 ⊢
  refine (specArrOk_any _ E F G x _ _ _ _ _ _ ms ds r0 r1 hw).mono ?_
  rintro e w1 ⟨rfl, b1⟩
  have X1 := X.below b1 zA
  have B1 := Below.andThen hA b1
  have q1 := r0.below b1
  clear k0 k1 k2 k3 k4 k5 k6 k7 k8 k9 k10 k11 k12 X b1 hA zA r0 r1
  obtain ⟨k0, k1, k2, k3, k4, k5, k6, k7, k8, k9, k10, k11, k12⟩ := X1.cells13
  cases ha : arrB x ms ds
  · skip
    have HF : Hid (wordsOk6 x ms ds s = false ∧ wordsL6 x ms ds s = []) := by unfold Hid wordsOk6 wordsL6 okB6; simp [ha]
    have FO := hidden ((own_ints (Owns.lit .i64 3 w1 [] 0 #[] rfl rfl (by unfold maxLen; omega))).widen (lo' := w.heap.size) B1.size (Nat.le_refl _))
    have FB := hidden (B1.alloc B1.size (.cells #[] 3))
    go_wp2
    refine bodyPost_ret (v := .tuple #[.slice (some ⟨w1.heap.size, 0, none⟩) 0 0, .bool false]) (by simp [results, Try.results13, go_sem]) rfl ?_
    exact ⟨_, _, _, by rw [HF.out.1], by rw [HF.out.2]; exact FO.out, FB.out⟩
  · have hg : geoB x.n x.s = true := by unfold arrB at ha; simp only [Bool.and_eq_true] at ha; exact ha.1
    obtain ⟨g1, g2, g3, g4⟩ := geoB_iff.1 hg
    have hws : IntKind.i64.wrap (x.s - 1) = x.s - 1 := IntWalk.i64_in _ (by omega)
    cases hbr : x.broken
    · rw [hbr] at k12
      go_wp2_with fail
      refine (l1In_any _ _ _ _).mono ?_
      rintro e wq ⟨rfl, hq⟩
      obtain rfl := hq.symm
      cases hin : inB s 0 (x.s - 1)
      · skip
        have HF : Hid (wordsOk6 x ms ds s = false ∧ wordsL6 x ms ds s = []) := by unfold Hid wordsOk6 wordsL6 okB6; simp [hin]
        have FO := hidden ((own_ints (Owns.lit .i64 3 w1 [] 0 #[] rfl rfl (by unfold maxLen; omega))).widen (lo' := w.heap.size) B1.size (Nat.le_refl _))
        have FB := hidden (B1.alloc B1.size (.cells #[] 3))
        go_wp2
        refine bodyPost_ret (v := .tuple #[.slice (some ⟨w1.heap.size, 0, none⟩) 0 0, .bool false]) (by simp [results, Try.results13, go_sem]) rfl ?_
        exact ⟨_, _, _, by rw [HF.out.1], by rw [HF.out.2]; exact FO.out, FB.out⟩
      · have HF : Hid (wordsOk6 x ms ds s = wordsB {x with broken := false} ms s ∧ wordsL6 x ms ds s = words6 {x with broken := false} ms s) := by unfold Hid wordsOk6 wordsL6 okB6; rw [ha, hbr, hin]; simp
        rw [hbr] at X1
        go_wp2_with fail
        refine (l6Words_any _ E F {x with broken := false} _ _ _ _ _ _ ms s q1 hwm hg).mono ?_
        rintro e w2 ⟨a', l', c', rfl, o2, b2⟩
        have FB := Below.andThen B1 b2
        have FO := o2.widen (lo' := w.heap.size) B1.size (Nat.le_refl _)
        go_wp2
        refine bodyPost_ret (v := .tuple #[.slice a' l' c', .bool (wordsB {x with broken := false} ms s)]) (by simp [results, Try.results13, go_sem]) rfl ?_
        exact ⟨_, _, _, by rw [HF.out.1], by rw [HF.out.2]; exact FO, FB⟩
    · rw [hbr] at k12
      have HF : Hid (wordsOk6 x ms ds s = false ∧ wordsL6 x ms ds s = []) := by unfold Hid wordsOk6 wordsL6 okB6; simp [hbr]
      have FO := hidden ((own_ints (Owns.lit .i64 3 w1 [] 0 #[] rfl rfl (by unfold maxLen; omega))).widen (lo' := w.heap.size) B1.size (Nat.le_refl _))
      have FB := hidden (B1.alloc B1.size (.cells #[] 3))
      go_wp2
      refine bodyPost_ret (v := .tuple #[.slice (some ⟨w1.heap.size, 0, none⟩) 0 0, .bool false]) (by simp [results, Try.results13, go_sem]) rfl ?_
      exact ⟨_, _, _, by rw [HF.out.1], by rw [HF.out.2]; exact FO.out, FB.out⟩

end Go.Proofs.Ytfimpohbpccjaaa

/-
  The words of a stripe's blocks (data6), and the walks of the specification's looks for them. Condition: the array weighs at most 2097152.
-/
import Derived.Test.YtfimpohbpccjaaaWalkWords2
import Derived.Test.YtfimpohbpccjaaaWalkGeoSpec
namespace Go.Proofs.Ytfimpohbpccjaaa
open Go.RowKit

def pickL (x : ArrN) (s : Int) (l : List Int) (j : Nat) : List Int := (List.range j).map fun (i : Nat) => l.getD (diskN x.n x.s s (i : Int)).toNat 0
theorem pickL_succ (x : ArrN) (s : Int) (l : List Int) (j : Nat) : pickL x s l (j + 1) = pickL x s l j ++ [l.getD (diskN x.n x.s s (j : Int)).toNat 0] := by unfold pickL; rw [List.range_succ, List.map_append]; rfl
theorem pickL_len (x : ArrN) (s : Int) (l : List Int) (j : Nat) : (pickL x s l j).length = j := by unfold pickL; simp
def data6 (x : ArrN) (ms : List MemD) (s : Int) : List Int := if wordsB x ms s = true then pickL x s (words6 x ms s) (x.n.toNat - 1) else []
theorem words6_len {x : ArrN} {ms : List MemD} {s : Int} (h : wordsB x ms s = true) : (words6 x ms s).length = x.n.toNat := by
  unfold wordsB at h
  rcases list_cases (of_decide_eq_true h) with h0 | ⟨p, hp⟩
  · rw [(words_none h0).2, wordL_len]
  · rw [(words_one hp).2, List.length_set, wordL_len]
theorem Reads.ahead6 {k : IntKind} {w : World} {a : Option Addr} {zs : List Int} (h : Reads k w a zs) (hn : 0 < zs.length) : ∀ q, a = some q → q.block < w.heap.size := by
  intro q hq
  rcases h.cases with h1 | ⟨b, off, rfl, hlt, _⟩
  · omega
  · simp at hq
    subst hq
    exact hlt
theorem disk_in {n s t i : Int} (hg : geoB n s = true) (ht : inB t 0 (s - 1) = true) (h0 : 0 ≤ i) (h1 : i < n - 1) : 0 ≤ diskN n s t i ∧ diskN n s t i < n := by
  obtain ⟨g1, g2, g3, g4⟩ := geoB_iff.1 hg
  have hs : spotB n s t i = true := by
    unfold spotB stripeB
    rw [hg, ht]
    unfold inB
    simp
    omega
  unfold diskN
  rw [if_pos hs]
  exact ⟨Int.emod_nonneg _ (by omega), Int.emod_lt_of_pos _ (by omega)⟩

set_option maxRecDepth 20000 in
set_option maxHeartbeats 1000000 in
theorem l6Data_any (w : World) (E F : TypeId) (x : ArrN) (am ad : Option Addr) (nm cm nd cd : Nat) (ms : List MemD) (s : Int) (h0 : (tMemS E F).Rd w [.slice am nm cm] ms) (hw : wtMemS ms ≤ 2097152) (hg : geoB x.n x.s = true) (ht : inB s 0 (x.s - 1) = true) :
    Calls Try.prog 45 #[.agg #[.int .i64 x.id, .int .i64 x.n, .int .i64 x.s, .slice am nm cm, .int .i64 x.lost, .int .i64 x.built, .int .i64 x.seq, .int .i64 x.tail, .int .i64 x.gen, .slice ad nd cd, .int .i64 x.fuse, .bool x.down, .bool x.broken], .int .i64 s] w fun e w' => ∃ a' l' c', e = .returned (.tuple #[.slice a' l' c', .bool (wordsB x ms s)]) ∧ tIntS.Own w' w.heap.size w'.heap.size [.slice a' l' c'] (data6 x ms s) ∧ Below w.heap.size w w' := by
  obtain ⟨g1, g2, g3, g4⟩ := geoB_iff.1 hg
  obtain ⟨n, hn⟩ : ∃ n : Nat, x.n = (n : Int) := ⟨x.n.toNat, by omega⟩
  have hnt : x.n.toNat = n := by omega
  have HN := hidden hn
  have HNT := hidden hnt
  have hn5 : 3 ≤ n ∧ n ≤ 5 := by omega
  clear hn hnt
  have hwn : IntKind.i64.wrap (x.n - 1) = x.n - 1 := IntWalk.i64_in _ (by omega)
  obtain ⟨i0, hi, hz0, hz1, hz2⟩ := info_parts Try.info3
  have hA := new_below w (.cells #[.int .i64 x.id, .int .i64 x.n, .int .i64 x.s, .slice am nm cm, .int .i64 x.lost, .int .i64 x.built, .int .i64 x.seq, .int .i64 x.tail, .int .i64 x.gen, .slice ad nd cd, .int .i64 x.fuse, .bool x.down, .bool x.broken] 34)
  have X := Box.new w 34 #[.int .i64 x.id, .int .i64 x.n, .int .i64 x.s, .slice am nm cm, .int .i64 x.lost, .int .i64 x.built, .int .i64 x.seq, .int .i64 x.tail, .int .i64 x.gen, .slice ad nd cd, .int .i64 x.fuse, .bool x.down, .bool x.broken]
  obtain ⟨k0, k1, k2, k3, k4, k5, k6, k7, k8, k9, k10, k11, k12⟩ := X.cells13
  have zA := X.lt
  have h1 := h0.below hA
  go_enter Try.func45, Try.ntmps45
  go_wp2_with fail
  generalize w.alloc (.cells #[.int .i64 x.id, .int .i64 x.n, .int .i64 x.s, .slice am nm cm, .int .i64 x.lost, .int .i64 x.built, .int .i64 x.seq, .int .i64 x.tail, .int .i64 x.gen, .slice ad nd cd, .int .i64 x.fuse, .bool x.down, .bool x.broken] 34) = W at hA X zA h1 k0 k1 k2 k3 k4 k5 k6 k7 k8 k9 k10 k11 k12 ⊢
  refine (l6Words_any _ E F x _ _ _ _ _ _ ms s h1 hw hg).mono ?_
  rintro e w1 ⟨aL, lL, cL, rfl, oL, b1⟩
  have X1 := X.below b1 zA
  have B1 := Below.andThen hA b1
  clear k0 k1 k2 k3 k4 k5 k6 k7 k8 k9 k10 k11 k12 X b1 hA zA h1
  have hO : Owns .i64 3 (w1.alloc (.cells #[] 3)) w1.heap.size (.slice (some ⟨w1.heap.size, 0, none⟩) 0 0) [] := Owns.lit .i64 3 w1 [] 0 #[] rfl rfl (by unfold maxLen; omega)
  have b2 := new_below w1 (.cells #[] 3)
  cases hok : wordsB x ms s
  · have hD : data6 x ms s = [] := by unfold data6; rw [hok]; rfl
    have X2 := X1.below b2 X1.lt
    obtain ⟨k0, k1, k2, k3, k4, k5, k6, k7, k8, k9, k10, k11, k12⟩ := X2.cells13
    have FO := hidden ((own_ints hO).widen (lo' := w.heap.size) B1.size (Nat.le_refl _))
    have FB := hidden (B1.trans (b2.mono B1.size))
    have HD := hidden hD
    clear hD
    go_wp2
    go_loopw [8, 9] (fun v i wr => v = .slice (some ⟨w1.heap.size, 0, none⟩) 0 0 ∧ i = .int .i64 0 ∧ wr = w1.alloc (.cells #[] 3)) (fun _ i _ => 0)
    case atStart => exact ⟨rfl, rfl, rfl⟩
    case round =>
      obtain ⟨rfl, rfl, rfl⟩ := hrel
      have h03 : (0 : Int) < x.n - 1 := by omega
      go_wp2
      refine bodyPost_ret (v := .tuple #[.slice (some ⟨w1.heap.size, 0, none⟩) 0 0, .bool false]) (by simp [results, Try.results45, go_sem]) rfl ?_
      exact ⟨_, _, _, by rw [hok], by rw [HD.out]; exact FO.out, FB.out⟩
  · have hD : data6 x ms s = pickL x s (words6 x ms s) (n - 1) := by unfold data6; rw [hok, HNT.out]; rfl
    have hwl := words6_len hok
    rw [HNT.out] at hwl
    obtain ⟨rdL, hlL, hncL, _⟩ := ints_rd oL.rd
    generalize words6 x ms s = L at hD hwl rdL hlL
    have HD := hidden hD
    have hlLn : lL = n := by omega
    subst hlLn
    clear hD oL
    have rd2 := rdL.below b2
    have X2 := X1.below b2 X1.lt
    have B2 := B1.trans (b2.mono B1.size)
    have z2 : w1.heap.size < (w1.alloc (.cells #[] 3)).heap.size := by simp
    go_wp2
    generalize w1.alloc (.cells #[] 3) = W2 at hO b2 rd2 X2 B2 z2 ⊢
    have sL : ∀ q, aL = some q → q.block < w1.heap.size := rdL.ahead6 (by omega)
    go_loopw [8, 9] (fun v i wr => ∃ j : Nat, j ≤ lL - 1 ∧ i = .int .i64 j ∧ Owns .i64 3 wr w1.heap.size v (pickL x s L j) ∧ Below w1.heap.size W2 wr) (fun _ i _ => lL - 1 - (intOf i).toNat)
    case atStart => exact ⟨0, Nat.zero_le _, rfl, by first | exact hO | simpa [pickL] using hO, Below.refl _ _⟩
    case round =>
      obtain ⟨j, hj, rfl, ho, hb⟩ := hrel
      have Xr := X2.below hb X1.lt
      obtain ⟨k0, k1, k2, k3, k4, k5, k6, k7, k8, k9, k10, k11, k12⟩ := Xr.cells13
      have zr := hb.size
      have rdr := rd2.old sL hb
      by_cases hjn : j < lL - 1
      · have hlt : (j : Int) < x.n - 1 := by have := HN.out; omega
        obtain ⟨d0, d1⟩ := disk_in (i := (j : Int)) hg ht (by omega) hlt
        go_wp2_with fail
        refine (specDiskOf_any _ _ _ _ _).mono ?_
        rintro e w3 ⟨rfl, b3⟩
        have X3 := Xr.below b3 Xr.lt
        have o3 := ho.below b3 (Nat.le_refl _)
        have B3 := hb.trans (b3.mono (by omega))
        have rd3 := rdr.below b3
        have z3 := b3.size
        clear k0 k1 k2 k3 k4 k5 k6 k7 k8 k9 k10 k11 k12 Xr b3 ho hb rdr
        have hs1 := pickL_succ x s L j
        have hlen := pickL_len x s L j
        have d2 := HN.out
        generalize diskN x.n x.s s (j : Int) = dk at d0 d1 hs1 ⊢
        obtain ⟨q, rfl⟩ := Int.eq_ofNat_of_zero_le d0
        have hq : q < lL := by omega
        rw [Int.toNat_natCast] at hs1
        rcases rd3.cases with hx | ⟨b, off, rfl, hbl, hcs⟩
        · omega
        have qc := hcs q (by omega)
        generalize L.getD q 0 = y at qc hs1
        have HS := hidden hs1
        have q1 : (0 : Int) ≤ (q : Int) := by omega
        have q2 : (q : Int) < (lL : Int) := by omega
        clear hcs hs1 d0 d1 d2 rd3
        go_wp2_with (at_builtin; refine wpList_app .i64 (by rfl) _ _ 38 (by rfl) w1.heap.size 3 i0 _ 8 Try.underlying38 hi hz0 hz1 hz2 rfl _ (pickL x s L j) (by rfl) (o3.alloc _) ⟨w3.heap.size, 0, none⟩ 1 1 [y] (by rfl) rfl (Reads.new _ _ _ _ _ rfl) ?h1 ?h2 ?h3 ?_)
        case h1 => unfold maxLen; omega
        case h2 => omega
        case h3 => simp; omega
        intro v' w4 o4 b4
        have B4 := hidden ((B3.alloc (by omega) (.cells #[.int .i64 y] 3)).trans b4)
        rw [← HS.out] at o4
        have O4 := hidden o4
        clear b4 o4 o3 B3
        go_wp2
        go_roundw
        case rel => exact ⟨j + 1, by omega, by go_num, O4.out, B4.out⟩
        case measure => simp [intOf]; omega
      · have ej : j = lL - 1 := by omega
        have hge : x.n - 1 ≤ (j : Int) := by have := HN.out; omega
        have hlen := pickL_len x s L j
        obtain ⟨go, co, hv, hgl, hgh, hlc, hcm⟩ := owns_some6 ho (by omega)
        rw [hlen] at hv hlc
        subst hv
        have FO := hidden ((own_ints ho).widen (lo' := w.heap.size) B1.size (Nat.le_refl _))
        have FB := hidden (B2.trans (hb.mono B1.size))
        have HD2 : Hid (data6 x ms s = pickL x s L j) := by unfold Hid; rw [HD.out, ej]
        clear ho hb Xr hlen hcm hlc hjn hgh rdr ej hj
        go_wp2
        refine bodyPost_ret (v := .tuple #[.slice (some ⟨go, 0, none⟩) j co, .bool true]) (by simp [results, Try.results45, go_sem]) rfl ?_
        exact ⟨_, _, _, rfl, by rw [HD2.out]; exact FO.out, FB.out⟩

def dataL6 (x : ArrN) (ms : List MemD) (ds : List (Int × List Int)) (s : Int) : List Int := if okB6 x ms ds s = true then data6 {x with broken := false} ms s else []

set_option maxRecDepth 20000 in
set_option maxHeartbeats 1000000 in
theorem specDataOf_any (w : World) (E F G : TypeId) (x : ArrN) (am ad : Option Addr) (nm cm nd cd : Nat) (ms : List MemD) (ds : List (Int × List Int)) (s : Int) (h0 : (tMemS E F).Rd w [.slice am nm cm] ms) (h1 : (tWrS G).Rd w [.slice ad nd cd] ds) (hw : wtArr ms ds ≤ 2097152) :
    Calls Try.prog 19 #[.agg #[.int .i64 x.id, .int .i64 x.n, .int .i64 x.s, .slice am nm cm, .int .i64 x.lost, .int .i64 x.built, .int .i64 x.seq, .int .i64 x.tail, .int .i64 x.gen, .slice ad nd cd, .int .i64 x.fuse, .bool x.down, .bool x.broken], .int .i64 s] w fun e w' => ∃ a' l' c', e = .returned (.tuple #[.slice a' l' c', .bool (wordsOk6 x ms ds s)]) ∧ tIntS.Own w' w.heap.size w'.heap.size [.slice a' l' c'] (dataL6 x ms ds s) ∧ Below w.heap.size w w' := by
  have hwm : wtMemS ms ≤ 2097152 := by unfold wtArr at hw; omega
  have hA := new_below w (.cells #[.int .i64 x.id, .int .i64 x.n, .int .i64 x.s, .slice am nm cm, .int .i64 x.lost, .int .i64 x.built, .int .i64 x.seq, .int .i64 x.tail, .int .i64 x.gen, .slice ad nd cd, .int .i64 x.fuse, .bool x.down, .bool x.broken] 34)
  have X := Box.new w 34 #[.int .i64 x.id, .int .i64 x.n, .int .i64 x.s, .slice am nm cm, .int .i64 x.lost, .int .i64 x.built, .int .i64 x.seq, .int .i64 x.tail, .int .i64 x.gen, .slice ad nd cd, .int .i64 x.fuse, .bool x.down, .bool x.broken]
  obtain ⟨k0, k1, k2, k3, k4, k5, k6, k7, k8, k9, k10, k11, k12⟩ := X.cells13
  have zA := X.lt
  have r0 := h0.below hA
  have r1 := h1.below hA
  go_enter Try.func19, Try.ntmps19
  go_wp2_with fail
  generalize w.alloc (.cells #[.int .i64 x.id, .int .i64 x.n, .int .i64 x.s, .slice am nm cm, .int .i64 x.lost, .int .i64 x.built, .int .i64 x.seq, .int .i64 x.tail, .int .i64 x.gen, .slice ad nd cd, .int .i64 x.fuse, .bool x.down, .bool x.broken] 34) = W at hA X zA r0 r1 k0 k1 k2 k3 k4 k5 k6 k7 k8 k9 k10 k11 k12 ⊢
  refine (specArrOk_any _ E F G x _ _ _ _ _ _ ms ds r0 r1 hw).mono ?_
  rintro e w1 ⟨rfl, b1⟩
  have X1 := X.below b1 zA
  have B1 := Below.andThen hA b1
  have q1 := r0.below b1
  clear k0 k1 k2 k3 k4 k5 k6 k7 k8 k9 k10 k11 k12 X b1 hA zA r0 r1
  obtain ⟨k0, k1, k2, k3, k4, k5, k6, k7, k8, k9, k10, k11, k12⟩ := X1.cells13
  cases ha : arrB x ms ds
  · skip
    have HF : Hid (wordsOk6 x ms ds s = false ∧ dataL6 x ms ds s = []) := by unfold Hid wordsOk6 dataL6 okB6; simp [ha]
    have FO := hidden ((own_ints (Owns.lit .i64 3 w1 [] 0 #[] rfl rfl (by unfold maxLen; omega))).widen (lo' := w.heap.size) B1.size (Nat.le_refl _))
    have FB := hidden (B1.alloc B1.size (.cells #[] 3))
    go_wp2
    refine bodyPost_ret (v := .tuple #[.slice (some ⟨w1.heap.size, 0, none⟩) 0 0, .bool false]) (by simp [results, Try.results19, go_sem]) rfl ?_
    exact ⟨_, _, _, by rw [HF.out.1], by rw [HF.out.2]; exact FO.out, FB.out⟩
  · have hg : geoB x.n x.s = true := by unfold arrB at ha; simp only [Bool.and_eq_true] at ha; exact ha.1
    obtain ⟨g1, g2, g3, g4⟩ := geoB_iff.1 hg
    have hws : IntKind.i64.wrap (x.s - 1) = x.s - 1 := IntWalk.i64_in _ (by omega)
    cases hbr : x.broken
    · rw [hbr] at k12
      go_wp2_with fail
      refine (l1In_any _ _ _ _).mono ?_
      rintro e wq ⟨rfl, hq⟩
      obtain rfl := hq.symm
      cases hin : inB s 0 (x.s - 1)
      · skip
        have HF : Hid (wordsOk6 x ms ds s = false ∧ dataL6 x ms ds s = []) := by unfold Hid wordsOk6 dataL6 okB6; simp [hin]
        have FO := hidden ((own_ints (Owns.lit .i64 3 w1 [] 0 #[] rfl rfl (by unfold maxLen; omega))).widen (lo' := w.heap.size) B1.size (Nat.le_refl _))
        have FB := hidden (B1.alloc B1.size (.cells #[] 3))
        go_wp2
        refine bodyPost_ret (v := .tuple #[.slice (some ⟨w1.heap.size, 0, none⟩) 0 0, .bool false]) (by simp [results, Try.results19, go_sem]) rfl ?_
        exact ⟨_, _, _, by rw [HF.out.1], by rw [HF.out.2]; exact FO.out, FB.out⟩
      · have HF : Hid (wordsOk6 x ms ds s = wordsB {x with broken := false} ms s ∧ dataL6 x ms ds s = data6 {x with broken := false} ms s) := by unfold Hid wordsOk6 dataL6 okB6; rw [ha, hbr, hin]; simp
        rw [hbr] at X1
        go_wp2_with fail
        refine (l6Data_any _ E F {x with broken := false} _ _ _ _ _ _ ms s q1 hwm hg hin).mono ?_
        rintro e w2 ⟨a', l', c', rfl, o2, b2⟩
        have FB := Below.andThen B1 b2
        have FO := o2.widen (lo' := w.heap.size) B1.size (Nat.le_refl _)
        go_wp2
        refine bodyPost_ret (v := .tuple #[.slice a' l' c', .bool (wordsB {x with broken := false} ms s)]) (by simp [results, Try.results19, go_sem]) rfl ?_
        exact ⟨_, _, _, by rw [HF.out.1], by rw [HF.out.2]; exact FO, FB⟩
    · rw [hbr] at k12
      have HF : Hid (wordsOk6 x ms ds s = false ∧ dataL6 x ms ds s = []) := by unfold Hid wordsOk6 dataL6 okB6; simp [hbr]
      have FO := hidden ((own_ints (Owns.lit .i64 3 w1 [] 0 #[] rfl rfl (by unfold maxLen; omega))).widen (lo' := w.heap.size) B1.size (Nat.le_refl _))
      have FB := hidden (B1.alloc B1.size (.cells #[] 3))
      go_wp2
      refine bodyPost_ret (v := .tuple #[.slice (some ⟨w1.heap.size, 0, none⟩) 0 0, .bool false]) (by simp [results, Try.results19, go_sem]) rfl ?_
      exact ⟨_, _, _, by rw [HF.out.1], by rw [HF.out.2]; exact FO.out, FB.out⟩

end Go.Proofs.Ytfimpohbpccjaaa

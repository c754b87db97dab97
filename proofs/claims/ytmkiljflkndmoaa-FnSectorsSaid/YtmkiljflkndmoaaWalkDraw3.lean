/-
  The walk of the specification's draw of what is got, for the law of sectors. Condition: at most 2097152 bytes to draw from.
-/
import Derived.Test.YtmkiljflkndmoaaWalkDraw2
import Derived.Test.YtmkiljflkndmoaaWalkSpecPut
namespace Go.Proofs.Ytmkiljflkndmoaa
open Go.RowKit

theorem secB_few {xs : List Int} (h : xs.length ≤ 4) (hw : allW xs = true) : secB xs = true := by
  unfold secB
  rw [hw]
  simp
  omega

theorem wordsL_bytes {xs : List Int} (h : allW xs = true) : ∀ y ∈ wordsL xs, 0 ≤ y ∧ y ≤ 255 := by
  intro y hy
  unfold wordsL at hy
  rw [List.mem_flatMap] at hy
  obtain ⟨n, hn, hy⟩ := hy
  unfold allW at h
  rw [List.all_eq_true] at h
  have := h n hn
  simp [isW] at this
  simp at hy
  omega

theorem putL_few {xs : List Int} (h : xs.length ≤ 4) (hw : allW xs = true) : (putL [] xs).length = 1 + 2 * xs.length ∧ ∀ y ∈ putL [] xs, 0 ≤ y ∧ y ≤ 255 := by
  unfold putL
  rw [if_pos (secB_few h hw)]
  refine ⟨?_, ?_⟩
  · simp [wordsL_length]
    omega
  · intro y hy
    simp at hy
    rcases hy with rfl | hy
    · omega
    · exact wordsL_bytes hw y hy

theorem set_bytes {bs : List Int} (h : ∀ y ∈ bs, 0 ≤ y ∧ y ≤ 255) (k : Nat) (x : Int) (h0 : 0 ≤ x) (h1 : x ≤ 255) : ∀ y ∈ bs.set k x, 0 ≤ y ∧ y ≤ 255 := by
  intro y hy
  rcases List.mem_or_eq_of_mem_set hy with hy | rfl
  · exact h y hy
  · exact ⟨h0, h1⟩

theorem Reads.take {k : IntKind} {w : World} {a : Option Addr} {zs : List Int} (h : Reads k w a zs) (n : Nat) : Reads k w a (zs.take n) := by
  rcases h with rfl | ⟨b, off, ha, hlt, hc⟩
  · exact .inl (by simp)
  · refine .inr ⟨b, off, ha, hlt, fun i hi => ?_⟩
    have hl : i < n ∧ i < zs.length := by simp at hi; omega
    rw [hc i hl.2, List.getD_eq_getElem?_getD, List.getD_eq_getElem?_getD, List.getElem?_take, if_pos hl.1]

theorem Draws.but {w w' : World} {g lb cb l h' : Nat} {a : Option Addr} {zs : List Int} (h : Draws w g a lb cb zs) (hb : But l h' w w') (hd : g < l) : Draws w' g a lb cb zs :=
  ⟨h.cur.but hb (.inl hd), h.len, h.reads.but hb (by rw [h.len]; exact fun h0 x hx => Nat.lt_trans (h.ahead h0 x hx) hd), h.bytes, h.few, h.ahead⟩
theorem Own.alloc {k : IntKind} {E : TypeId} {w : World} {lo hi : Nat} {v : Value} {zs : List Int} (h : Own k E w lo hi v zs) (o : Obj) : Own k E (w.alloc o) lo hi v zs := h.below ((Below.refl _ _).alloc (Nat.le_refl _) o)
theorem place_bounds {n : Nat} {p : Int} (hn : n ≤ 9) (h : p ∈ [(0 : Int), 0, 0, 1, (n : Int), -1, 9223372036854775807]) : -9223372036854775808 ≤ p ∧ p ≤ 9223372036854775807 := by
  simp at h
  omega

set_option maxHeartbeats 3200000 in
theorem drawGetSec_any (w : World) (a : Option Addr) (lb cb : Nat) (zs : List Int) (hz : zs.length = lb) (hr : Reads .u8 w a zs) (hby : ∀ n ∈ zs, 0 ≤ n ∧ n ≤ 255) (hlb : lb ≤ 2097152) :
    Calls Try.prog 11 #[.slice a lb cb] w fun e w' => ∃ (a' : Option Addr) (n cap : Nat) (p : Int) (cs : List Int), e = .returned (.tuple #[.slice a' n cap, .int .i64 p]) ∧ cs.length = n ∧ n ≤ 9 ∧ n ≤ cap ∧ cap ≤ 9223372036854775807 ∧ (∀ x ∈ cs, 0 ≤ x ∧ x ≤ 255) ∧
      -9223372036854775808 ≤ p ∧ p ≤ 9223372036854775807 ∧ Reads .u8 w' a' cs ∧ Below w.heap.size w w' := by
  go_enter Try.func11, Try.ntmps11
  go_wp2_with fail
  refine (l1New_any _ _ _ _ zs hz hr hlb).mono ?_
  rintro e w1 ⟨rfl, hc1, hb1⟩
  have hd1 : Draws w1 w.heap.size a lb cb zs := ⟨hc1, hz, hr.below hb1, hby, hlb, hr.ahead hz⟩
  have s1 := hd1.lt
  clear hc1
  go_wp2_with fail
  refine (l1Sec_any (hd1.alloc _)).mono ?_
  rintro e w2 ⟨v2, xs, rfl, hl2, hw2, ho2, hd2, hb2⟩
  obtain ⟨a2, c2, rfl, o2⟩ := ho2.take rfl rfl
  have hB2 := Below.andBut (hb1.alloc (by omega) _) hb2 (Nat.le_refl _)
  have s2 := hb2.size
  clear hb1 hb2 hd1
  go_wp2_with fail
  refine (specPutSec_any _ _ 0 _ [] _ _ _ xs rfl (.inl rfl) rfl o2.reads o2.bound (by omega) (by omega)).mono ?_
  rintro e w3 ⟨v3, rfl, ho3, hb3⟩
  obtain ⟨hpl, hpb⟩ := putL_few hl2 hw2
  generalize putL [] xs = bs at hpl hpb ho3
  obtain ⟨g3, c3, rfl, hg3, hg3', hc3, hc3'⟩ := ho3.someOf (by omega)
  generalize hbn : bs.length = bn at hpl hc3
  have hbn9 : bn ≤ 9 := by omega
  have hbn1 : 1 ≤ bn := by omega
  unfold maxLen at hc3'
  have O3 := ho3.own
  have hd3 := hd2.lower hb3 hd2.lt
  have hB3 := Below.andThen hB2 hb3
  have s3 := hb3.size
  have s2' := hd2.lt
  rw [hbn] at O3
  generalize w3.heap.size = hi3 at O3
  clear ho2 o2 hB2 hb3 hd2 ho3 hpl hw2 hl2
  go_wp2_with fail
  refine (dBelow hd3 5 (by omega) (by omega)).mono ?_
  rintro e w4 ⟨n, rfl, hn0, hn1, hd4, hb4⟩
  have O4 := O3.but hb4 (.inr (by omega))
  have hB4 := Below.andBut hB3 hb4 (Nat.le_refl _)
  have s4 := hb4.size
  clear O3 hb4 hB3 hd3
  by_cases e0 : n = 0
  · subst e0
    go_wp2_with fail
    refine (dBelow hd4 _ (by omega) (by omega)).mono ?_
    rintro e w5 ⟨k, rfl, hk0, hk1, hd5, hb5⟩
    obtain ⟨k, rfl⟩ := Int.eq_ofNat_of_zero_le hk0
    have hk : k < bn := by omega
    have O5 := O4.but hb5 (.inr (by omega))
    have hB5 := Below.andBut hB4 hb5 (Nat.le_refl _)
    have s5 := hb5.size
    clear O4 hb5 hB4 hd4 hk0 hk1
    go_wp2_with fail
    refine (dInt (hd5.alloc _) _ 5 _ [0, 1, 12, 13, 255] rfl (Reads.new _ _ _ _ _ rfl) ?hx (by omega) (by omega)).mono ?_
    case hx => intro x hx; simp at hx; subst hx; exact hd5.lt
    rintro e w6 ⟨y, rfl, hy, hd6, hb6⟩
    have hy0 : 0 ≤ y ∧ y ≤ 255 := by simp at hy; omega
    have O6 := (O5.alloc _).but hb6 (.inr (by omega))
    have hB6 := Below.andBut (hB5.alloc hB5.size _) hb6 (Nat.le_refl _)
    clear O5 hb6 hB5 hd5 hy
    obtain ⟨hcy, hfy, hst, hbt⟩ := O6.store k hk y
    have hd7 := hd6.but hbt (by omega)
    have hB7 := Below.andBut hB6 hbt (by omega)
    have hs7 : (bs.set k y).length = bn := by rw [List.length_set]; exact hbn
    have hp7 := set_bytes hpb k y hy0.1 hy0.2
    generalize bs.set k y = cs at hst hs7 hp7
    generalize bs.getD k 0 = old at hcy
    have HD : Hid (Draws (w6.setCell ⟨g3, k, none⟩ (.int .u8 y)) w.heap.size a lb cb zs) := hd7
    have HB : Hid (Below w.heap.size w (w6.setCell ⟨g3, k, none⟩ (.int .u8 y))) := hB7
    have HO : Hid (Own .u8 5 (w6.setCell ⟨g3, k, none⟩ (.int .u8 y)) w2.heap.size hi3 (.slice (some ⟨g3, 0, none⟩) bn c3) cs) := hst
    clear hd7 hB7 hst hbt hd6 hB6 O6
    have hz7 : (w6.setCell ⟨g3, k, none⟩ (.int .u8 y)).heap.size = w6.heap.size := World.size_setCell _ _ _
    have HR := Reads.new .i64 (w6.setCell ⟨g3, k, none⟩ (.int .u8 y)) 3 [0, 0, 0, 1, (bn : Int), -1, 9223372036854775807] _ rfl
    have hlt7 := HD.out.lt
    rw [hz7] at HR hlt7
    have HR2 := hidden HR
    clear HR hz7
    go_wp2_with fail
    refine (dInt (HD.out.alloc _) (some ⟨w6.heap.size, 0, none⟩) 7 7 [0, 0, 0, 1, (bn : Int), -1, 9223372036854775807] rfl HR2.out ?hx2 (by omega) (by omega)).mono ?_
    case hx2 => intro x hx; simp at hx; subst hx; exact hlt7
    rintro e w8 ⟨p, rfl, hp, hd8, hb8⟩
    have hpp := place_bounds hbn9 hp
    have O8 := (HO.out.alloc _).but hb8 (.inr (by omega))
    have hB8 := Below.andBut (HB.out.alloc HB.out.size _) hb8 (Nat.le_refl _)
    clear hb8 hp
    go_wp2
    go_ret2
    exact ⟨_, _, _, _, cs, rfl, hs7, hbn9, hc3, hc3', hp7, hpp.1, hpp.2, O8.reads, hB8⟩
  · by_cases e1 : n = 1
    · subst e1
      go_wp2_with fail
      refine (dBelow hd4 _ (by omega) (by omega)).mono ?_
      rintro e w5 ⟨k, rfl, hk0, hk1, hd5, hb5⟩
      obtain ⟨k, rfl⟩ := Int.eq_ofNat_of_zero_le hk0
      have hk : k ≤ bn := by omega
      have O5 := O4.but hb5 (.inr (by omega))
      have hB5 := Below.andBut hB4 hb5 (Nat.le_refl _)
      have s5 := hb5.size
      have hkc : (k : Int) ≤ (c3 : Int) := by omega
      clear O4 hb5 hB4 hd4 hk0 hk1
      go_wp2_with fail
      refine (dInt (hd5.alloc _) _ 7 _ [0, 0, 0, 1, (k : Int), -1, 9223372036854775807] rfl (Reads.new _ _ _ _ _ rfl) ?hx3 (by omega) (by omega)).mono ?_
      case hx3 => intro x hx; simp at hx; subst hx; exact hd5.lt
      rintro e w8 ⟨p, rfl, hp, hd8, hb8⟩
      have hpp := place_bounds (by omega) hp
      have O8 := (O5.alloc _).but hb8 (.inr (by omega))
      have hB8 := Below.andBut (hB5.alloc hB5.size _) hb8 (Nat.le_refl _)
      clear hb8 hp
      have hs8 : (bs.take k).length = k := by simp; omega
      go_wp2
      go_ret2
      exact ⟨_, _, _, _, bs.take k, rfl, hs8, by omega, by omega, hc3', fun x hx => hpb x (List.mem_of_mem_take hx), hpp.1, hpp.2, O8.reads.take k, hB8⟩
    · have e0' : (n == 0) = false := by simpa using e0
      have e1' : (n == 1) = false := by simpa using e1
      go_wp2_with fail
      refine (dInt (hd4.alloc _) _ 7 _ [0, 0, 0, 1, (bn : Int), -1, 9223372036854775807] rfl (Reads.new _ _ _ _ _ rfl) ?hx4 (by omega) (by omega)).mono ?_
      case hx4 => intro x hx; simp at hx; subst hx; exact hd4.lt
      rintro e w8 ⟨p, rfl, hp, hd8, hb8⟩
      have hpp := place_bounds hbn9 hp
      have O8 := (O4.alloc _).but hb8 (.inr (by omega))
      have hB8 := Below.andBut (hB4.alloc hB4.size _) hb8 (Nat.le_refl _)
      clear hb8 hp
      go_wp2
      go_ret2
      exact ⟨_, _, _, _, bs, rfl, hbn, hbn9, hc3, hc3', hpb, hpp.1, hpp.2, O8.reads, hB8⟩

end Go.Proofs.Ytmkiljflkndmoaa

/-
  The walk of the law that of drawn numbers, bent or not, where blocks are is as the document has it: whatever bytes it draws from, it answers true, and nothing that was there has turned. No condition.
-/
import Derived.Test.YtmkiljflkndmoabWalkDrawGeo3
import Derived.Test.YtmkiljflkndmoabWalkDisk
import Derived.Test.YtmkiljflkndmoabWalkGeoSpec
import Derived.Test.YtmkiljflkndmoabWalkMissing
import Derived.Test.YtmkiljflkndmoabWalkBig
namespace Go.Proofs.Ytmkiljflkndmoab
open Go.RowKit

theorem same_below {w w' : World} (h : Same w w') : Below w.heap.size w w' := h.below _

set_option maxHeartbeats 8000000 in
theorem fnGeosBent_walk (a0 : Option Addr) (len0 cap0 : Nat) (z0 : List Int) (w : World) (w0 : IsRow .u8 w a0 len0 cap0 z0) :
    Calls Try.prog 4 #[.slice a0 len0 cap0] w fun e w' => e = .returned (.bool true) ∧ Below w.heap.size w w' := by
  obtain ⟨R, hl, hwf, hml⟩ := w0.reads
  generalize z0.take len0 = zs at R hl hwf
  unfold maxLen at hml
  have hby := bytes_of_wf hwf
  clear w0 hwf
  by_cases hbig : len0 ≤ 1048576
  rotate_left
  · go_enter Try.func4, Try.ntmps4
    go_wp2_with fail
    refine (big_any _ _ _ _).mono ?_
    rintro e wb ⟨rfl, rfl⟩
    go_wp2
    go_ret
    exact ⟨rfl, Below.refl _ _⟩
  have hlb : len0 ≤ 2097152 := by omega
  have B := Below.refl w.heap.size w
  go_enter Try.func4, Try.ntmps4
  go_wp2_with fail
  refine (big_any _ _ _ _).mono ?_
  rintro e wb ⟨rfl, rfl⟩
  go_wp2_with fail
  refine (dDrawGeoOk_any _ _ _ _ zs hl R hby hlb).mono ?_
  rintro e w1 ⟨n1, s1, rfl, b⟩
  have B' := Below.andThen B b
  have R' := R.below b
  clear  B R b
  have B := B'
  have R := R'
  clear  B' R'
  have B' := Below.andThen B (new_below w1 (.cells #[.int .i64 n1, .int .i64 s1] 25))
  have R' := R.below (new_below w1 (.cells #[.int .i64 n1, .int .i64 s1] 25))
  clear  B R
  have B := B'
  have R := R'
  clear  B' R'
  have Xg := Gbox.new w1 25 n1 s1
  go_wp2_with fail
  generalize w1.alloc (.cells #[.int .i64 n1, .int .i64 s1] 25) = w1A at Xg B R ⊢
  refine (dDrawDiskOf_any _ _ _ _ zs hl R hby hlb).mono ?_
  rintro e w2 ⟨n2, s2, t2, i2, rfl, b⟩
  have Xg' := Xg.below b Xg.lt
  have B' := Below.andThen B b
  have R' := R.below b
  clear Xg B R b
  have Xg := Xg'
  have B := B'
  have R := R'
  clear Xg' B' R'
  have Xg' := Xg.alloc (.cells #[.int .i64 n2, .int .i64 s2] 25)
  have B' := Below.andThen B (new_below w2 (.cells #[.int .i64 n2, .int .i64 s2] 25))
  have R' := R.below (new_below w2 (.cells #[.int .i64 n2, .int .i64 s2] 25))
  clear Xg B R
  have Xg := Xg'
  have B := B'
  have R := R'
  clear Xg' B' R'
  have Xh := Gbox.new w2 25 n2 s2
  go_wp2_with fail
  generalize w2.alloc (.cells #[.int .i64 n2, .int .i64 s2] 25) = w2A at Xg Xh B R ⊢
  refine (dDrawStripeOf_any _ _ _ _ zs hl R hby hlb).mono ?_
  rintro e w3 ⟨n3, s3, b3, rfl, b⟩
  have Xg' := Xg.below b Xg.lt
  have Xh' := Xh.below b Xh.lt
  have B' := Below.andThen B b
  have R' := R.below b
  clear Xg Xh B R b
  have Xg := Xg'
  have Xh := Xh'
  have B := B'
  have R := R'
  clear Xg' Xh' B' R'
  have Xg' := Xg.alloc (.cells #[.int .i64 n3, .int .i64 s3] 25)
  have Xh' := Xh.alloc (.cells #[.int .i64 n3, .int .i64 s3] 25)
  have B' := Below.andThen B (new_below w3 (.cells #[.int .i64 n3, .int .i64 s3] 25))
  have R' := R.below (new_below w3 (.cells #[.int .i64 n3, .int .i64 s3] 25))
  clear Xg Xh B R
  have Xg := Xg'
  have Xh := Xh'
  have B := B'
  have R := R'
  clear Xg' Xh' B' R'
  have Xk := Gbox.new w3 25 n3 s3
  go_wp2_with fail
  generalize w3.alloc (.cells #[.int .i64 n3, .int .i64 s3] 25) = w3A at Xg Xh Xk B R ⊢
  refine (dDrawMissingWord_any _ _ _ _ zs hl R hby hlb).mono ?_
  rintro e w4 ⟨v4, xs4, k4, rfl, hx4, ho4, b⟩
  obtain ⟨a4, c4, rfl, O⟩ := ho4.take rfl rfl
  clear ho4
  have Xg' := Xg.below b Xg.lt
  have Xh' := Xh.below b Xh.lt
  have Xk' := Xk.below b Xk.lt
  have B' := Below.andThen B b
  have R' := R.below b
  clear Xg Xh Xk B R b
  have Xg := Xg'
  have Xh := Xh'
  have Xk := Xk'
  have B := B'
  have R := R'
  clear Xg' Xh' Xk' B' R'
  go_wp2_with fail
  refine (dDrawParityOf_any _ _ _ _ zs hl R hby hlb).mono ?_
  rintro e w5 ⟨n5, s5, t5, rfl, b⟩
  have Xg' := Xg.below b Xg.lt
  have Xh' := Xh.below b Xh.lt
  have Xk' := Xk.below b Xk.lt
  have B' := Below.andThen B b
  have R' := R.below b
  have O' := O.below b
  clear Xg Xh Xk B R O b
  have Xg := Xg'
  have Xh := Xh'
  have Xk := Xk'
  have B := B'
  have R := R'
  have O := O'
  clear Xg' Xh' Xk' B' R' O'
  have Xg' := Xg.alloc (.cells #[.int .i64 n5, .int .i64 s5] 25)
  have Xh' := Xh.alloc (.cells #[.int .i64 n5, .int .i64 s5] 25)
  have Xk' := Xk.alloc (.cells #[.int .i64 n5, .int .i64 s5] 25)
  have B' := Below.andThen B (new_below w5 (.cells #[.int .i64 n5, .int .i64 s5] 25))
  have R' := R.below (new_below w5 (.cells #[.int .i64 n5, .int .i64 s5] 25))
  have O' := O.below (new_below w5 (.cells #[.int .i64 n5, .int .i64 s5] 25))
  clear Xg Xh Xk B R O
  have Xg := Xg'
  have Xh := Xh'
  have Xk := Xk'
  have B := B'
  have R := R'
  have O := O'
  clear Xg' Xh' Xk' B' R' O'
  have Xp := Gbox.new w5 25 n5 s5
  go_wp2_with fail
  generalize w5.alloc (.cells #[.int .i64 n5, .int .i64 s5] 25) = w5A at Xg Xh Xk Xp B R O ⊢
  have SB : ∀ u u' : World, Below u.heap.size u u' → (fun w' : World => Gbox w' w1.heap.size 25 n1 s1 ∧ Gbox w' w2.heap.size 25 n2 s2 ∧ Gbox w' w3.heap.size 25 n3 s3 ∧ Gbox w' w5.heap.size 25 n5 s5) u → (fun w' : World => Gbox w' w1.heap.size 25 n1 s1 ∧ Gbox w' w2.heap.size 25 n2 s2 ∧ Gbox w' w3.heap.size 25 n3 s3 ∧ Gbox w' w5.heap.size 25 n5 s5) u' := fun u u' b ⟨h1, h2, h3, h4⟩ => ⟨h1.below b h1.lt, h2.below b h2.lt, h3.below b h3.lt, h4.below b h4.lt⟩
  have SC : ∀ w' : World, (Gbox w' w1.heap.size 25 n1 s1 ∧ Gbox w' w2.heap.size 25 n2 s2 ∧ Gbox w' w3.heap.size 25 n3 s3 ∧ Gbox w' w5.heap.size 25 n5 s5) → w'.cell? ⟨w1.heap.size, 0, none⟩ = some (.int .i64 n1) ∧ w'.cell? ⟨w1.heap.size, 1, none⟩ = some (.int .i64 s1) ∧ w'.cell? ⟨w2.heap.size, 0, none⟩ = some (.int .i64 n2) ∧ w'.cell? ⟨w2.heap.size, 1, none⟩ = some (.int .i64 s2) ∧ w'.cell? ⟨w3.heap.size, 0, none⟩ = some (.int .i64 n3) ∧ w'.cell? ⟨w3.heap.size, 1, none⟩ = some (.int .i64 s3) ∧ w'.cell? ⟨w5.heap.size, 0, none⟩ = some (.int .i64 n5) ∧ w'.cell? ⟨w5.heap.size, 1, none⟩ = some (.int .i64 s5) := fun w' ⟨h1, h2, h3, h4⟩ => ⟨h1.cells.1, h1.cells.2, h2.cells.1, h2.cells.2, h3.cells.1, h3.cells.2, h4.cells.1, h4.cells.2⟩
  have F0 : Hid ((fun w' : World => Gbox w' w1.heap.size 25 n1 s1 ∧ Gbox w' w2.heap.size 25 n2 s2 ∧ Gbox w' w3.heap.size 25 n3 s3 ∧ Gbox w' w5.heap.size 25 n5 s5) w5A.drew) := ⟨Xg.drew, Xh.drew, Xk.drew, Xp.drew⟩
  have FS := SC w5A ⟨Xg, Xh, Xk, Xp⟩
  have O0 := hidden (O.same ((Same.refl _).drew))
  have B0 := hidden B.drew
  clear Xg Xh Xk Xp O B R
  have e_GeoOk : (geoB n1 s1 == geoB n1 s1) = true := by simp
  have e_DiskOf : (diskN n2 s2 t2 i2 == diskN n2 s2 t2 i2) = true := by simp
  have e_BlockAt : (blockN n2 s2 t2 i2 == blockN n2 s2 t2 i2) = true := by simp
  have e_StripeOf : (stripeN n3 s3 b3 == stripeN n3 s3 b3) = true := by simp
  have e_IndexOf : (indexN n3 s3 b3 == indexN n3 s3 b3) = true := by simp
  have e_m : (skipL xs4 k4 xs4.length == skipL xs4 k4 xs4.length) = true := by simp
  have e_ParityOf : (parN n5 s5 t5 == parN n5 s5 t5) = true := by simp
  have e_Blocks : (blocksN n1 s1 == blocksN n1 s1) = true := by simp
  dsimp only [List.append]
  go_region_held3 (fun w' => w'.cell? ⟨w1.heap.size, 0, none⟩ = some (.int .i64 n1) ∧ w'.cell? ⟨w1.heap.size, 1, none⟩ = some (.int .i64 s1) ∧ w'.cell? ⟨w2.heap.size, 0, none⟩ = some (.int .i64 n2) ∧ w'.cell? ⟨w2.heap.size, 1, none⟩ = some (.int .i64 s2) ∧ w'.cell? ⟨w3.heap.size, 0, none⟩ = some (.int .i64 n3) ∧ w'.cell? ⟨w3.heap.size, 1, none⟩ = some (.int .i64 s3) ∧ w'.cell? ⟨w5.heap.size, 0, none⟩ = some (.int .i64 n5) ∧ w'.cell? ⟨w5.heap.size, 1, none⟩ = some (.int .i64 s5))
    (first | (with_reducible exact SC u16 F16.out) | (with_reducible exact SC u15 F15.out) | (with_reducible exact SC u14 F14.out) | (with_reducible exact SC u13 F13.out) | (with_reducible exact SC u12 F12.out) | (with_reducible exact SC u11 F11.out) | (with_reducible exact SC u10 F10.out) | (with_reducible exact SC u9 F9.out) | (with_reducible exact SC u8 F8.out) | (with_reducible exact SC u7 F7.out) | (with_reducible exact SC u6 F6.out) | (with_reducible exact SC u5 F5.out) | (with_reducible exact SC u4 F4.out) | (with_reducible exact SC u3 F3.out) | (with_reducible exact SC u2 F2.out) | (with_reducible exact SC u1 F1.out) | (with_reducible exact SC w5A.drew F0.out) | (with_reducible exact FS) | go_keep)
    (first
    | (go_at_call 13; refine (implGeoOk_any _ _ _).mono ?_; rintro e u1 ⟨rfl, b⟩; have F1 := hidden (SB _ _ b F0.out); have B1 := hidden (Below.andThen B0.out b); have O1 := hidden (O0.out.below b); clear b)
    | (go_at_call 19; refine (specGeoOk_any _ _ _).mono ?_; rintro e u2 ⟨rfl, b⟩; have F2 := hidden (SB _ _ b F1.out); have B2 := hidden (Below.andThen B1.out b); have O2 := hidden (O1.out.below b); clear b)
    | (go_at_call 9; refine (implDiskOf_any _ _ _ _ _).mono ?_; rintro e u3 ⟨rfl, b⟩; have F3 := hidden (SB _ _ b F2.out); have B3 := hidden (Below.andThen B2.out b); have O3 := hidden (O2.out.below b); clear b)
    | (go_at_call 20; refine (specDiskOf_any _ _ _ _ _).mono ?_; rintro e u4 ⟨rfl, b⟩; have F4 := hidden (SB _ _ b F3.out); have B4 := hidden (Below.andThen B3.out b); have O4 := hidden (O3.out.below b); clear b)
    | (go_at_call 7; refine (implBlockAt_any _ _ _ _ _).mono ?_; rintro e u5 ⟨rfl, b⟩; have F5 := hidden (SB _ _ b F4.out); have B5 := hidden (Below.andThen B4.out b); have O5 := hidden (O4.out.below b); clear b)
    | (go_at_call 21; refine (specBlockAt_any _ _ _ _ _).mono ?_; rintro e u6 ⟨rfl, b⟩; have F6 := hidden (SB _ _ b F5.out); have B6 := hidden (Below.andThen B5.out b); have O6 := hidden (O5.out.below b); clear b)
    | (go_at_call 10; refine (implStripeOf_any _ _ _ _).mono ?_; rintro e u7 ⟨rfl, b⟩; have F7 := hidden (SB _ _ b F6.out); have B7 := hidden (Below.andThen B6.out b); have O7 := hidden (O6.out.below b); clear b)
    | (go_at_call 22; refine (specStripeOf_any _ _ _ _).mono ?_; rintro e u8 ⟨rfl, b⟩; have F8 := hidden (SB _ _ b F7.out); have B8 := hidden (Below.andThen B7.out b); have O8 := hidden (O7.out.below b); clear b)
    | (go_at_call 11; refine (implIndexOf_any _ _ _ _).mono ?_; rintro e u9 ⟨rfl, b⟩; have F9 := hidden (SB _ _ b F8.out); have B9 := hidden (Below.andThen B8.out b); have O9 := hidden (O8.out.below b); clear b)
    | (go_at_call 23; refine (specIndexOf_any _ _ _ _).mono ?_; rintro e u10 ⟨rfl, b⟩; have F10 := hidden (SB _ _ b F9.out); have B10 := hidden (Below.andThen B9.out b); have O10 := hidden (O9.out.below b); clear b)
    | (go_at_call 24; refine (implMissingWord_any _ _ _ _ xs4 _ rfl O10.out.reads (by omega)).mono ?_; rintro e u11 ⟨rfl, hs⟩; have b := same_below hs; have F11 := hidden (SB _ _ b F10.out); have B11 := hidden (Below.andThen B10.out b); have O11 := hidden (O10.out.below b); clear b hs)
    | (go_at_call 25; refine (specMissingWord_any _ _ _ _ xs4 _ rfl O11.out.reads (by omega)).mono ?_; rintro e u12 ⟨rfl, hs⟩; have b := same_below hs; have F12 := hidden (SB _ _ b F11.out); have B12 := hidden (Below.andThen B11.out b); have O12 := hidden (O11.out.below b); clear b hs)
    | (go_at_call 8; refine (implParityOf_any _ _ _ _).mono ?_; rintro e u13 ⟨rfl, b⟩; have F13 := hidden (SB _ _ b F12.out); have B13 := hidden (Below.andThen B12.out b); have O13 := hidden (O12.out.below b); clear b)
    | (go_at_call 26; refine (specParityOf_any _ _ _ _).mono ?_; rintro e u14 ⟨rfl, b⟩; have F14 := hidden (SB _ _ b F13.out); have B14 := hidden (Below.andThen B13.out b); have O14 := hidden (O13.out.below b); clear b)
    | (go_at_call 12; refine (implBlocks_any _ _ _).mono ?_; rintro e u15 ⟨rfl, b⟩; have F15 := hidden (SB _ _ b F14.out); have B15 := hidden (Below.andThen B14.out b); have O15 := hidden (O14.out.below b); clear b)
    | (go_at_call 27; refine (specBlocks_any _ _ _).mono ?_; rintro e u16 ⟨rfl, b⟩; have F16 := hidden (SB _ _ b F15.out); have B16 := hidden (Below.andThen B15.out b); have O16 := hidden (O15.out.below b); clear b))
  go_wp2
  go_ret
  exact ⟨rfl, B16.out⟩

end Go.Proofs.Ytmkiljflkndmoab

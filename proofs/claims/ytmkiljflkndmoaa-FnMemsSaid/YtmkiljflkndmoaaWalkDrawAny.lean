/-
  The walks of the specification's Draw functions of disks, bent or not. Condition: at most 2097152 bytes to draw from.
-/
import Derived.Test.YtmkiljflkndmoaaWalkL2Any
namespace Go.Proofs.Ytmkiljflkndmoaa
open Go.RowKit

/-- A drawn disk among the results. -/
def DrawnMem (w : World) (mk : Value → Value) (e : Ending) (w' : World) : Prop :=
  ∃ v0 v1 v3 ss cs f bs, e = .returned (mk (.agg #[v0, v1, .bool f, v3])) ∧ tIntSS.Rd w' [v0] ss ∧ (tWrS 57).Rd w' [v1] cs ∧ tIntS.Rd w' [v3] bs ∧ wtMem (ss, cs, f, bs) ≤ 2000 ∧ Below w.heap.size w w'

theorem l2Sector_any {w : World} {g lb cb : Nat} {a : Option Addr} {zs : List Int} (h : Draws w g a lb cb zs) :
    Calls Try.prog 64 #[.pointer (some ⟨g, 0, none⟩)] w fun e w' => ∃ x : Int, e = .returned (.int .i64 x) ∧ Draws w' g a lb cb zs ∧ But g (g + 1) w w' := by
  have HR := hidden (Reads.new .i64 w 3 [0, 0, 1, 2, 3, -1, 20] _ rfl)
  go_enter Try.func64, Try.ntmps64
  go_wp2_with fail
  refine (dInt (h.alloc _) _ 7 _ [0, 0, 1, 2, 3, -1, 20] rfl HR.out ?hx (by omega) (by omega)).mono ?_
  case hx => intro x hx; simp at hx; subst hx; exact h.lt
  rintro e w1 ⟨x, rfl, _, D1, b1⟩
  go_wp2
  go_ret
  exact ⟨x, rfl, D1, ((But.refl _ _ _).alloc _).trans b1⟩

set_option maxHeartbeats 3200000 in
theorem dDrawMemOk_any (w : World) (a : Option Addr) (lb cb : Nat) (zs : List Int) (hz : zs.length = lb) (hr : Reads .u8 w a zs) (hby : ∀ n ∈ zs, 0 ≤ n ∧ n ≤ 255) (hlb : lb ≤ 2097152) :
    Calls Try.prog 34 #[.slice a lb cb] w fun e w' => DrawnMem w (fun m => m) e w' := by
  have hA : Below w.heap.size w (w.alloc (.cells #[.slice none 0 0, .slice none 0 0, .bool false, .slice none 0 0] 44)) := (Below.refl _ _).alloc (Nat.le_refl _) _
  have X := Box.new w 44 #[.slice none 0 0, .slice none 0 0, .bool false, .slice none 0 0]
  have zA := X.lt
  go_enter Try.func34, Try.ntmps34
  go_wp2_with fail
  generalize w.alloc (.cells #[.slice none 0 0, .slice none 0 0, .bool false, .slice none 0 0] 44) = W at hA X zA ⊢
  refine (l1New_any _ _ _ _ zs hz (hr.below hA) hlb).mono ?_
  rintro e w1 ⟨rfl, hc1, hb1⟩
  have D1 : Draws w1 W.heap.size a lb cb zs := ⟨hc1, hz, (hr.below hA).below hb1, hby, hlb, (hr.below hA).ahead hz⟩
  have B1 := Below.andThen hA hb1
  have X1 := X.below hb1 zA
  have zD := D1.lt
  clear hc1 hA X hb1
  go_wp2_with fail
  refine (l2Any_any D1).mono ?_
  rintro e w2 ⟨v0, v1, v3, ss, cs, f, bs, rfl, I0, I1, I3, hw, D2, b2⟩
  have X2 : Box w2 w.heap.size 44 #[.slice none 0 0, .slice none 0 0, .bool false, .slice none 0 0] := X1.kept (b2.block _ X1.lt (.inl (by omega)))
  have B2 := Below.andBut B1 b2 (by omega)
  have J0 := hidden I0
  have J1 := hidden I1
  have J3 := hidden I3
  have HW := hidden hw
  obtain ⟨s0, k0, hv0⟩ := row_shape I0.rd
  obtain ⟨s1, k1, hv1⟩ := row_shape I1.rd
  obtain ⟨s3, k3, hv3⟩ := row_shape I3.rd
  generalize List.length ss = n0 at hv0
  generalize List.length cs = n1 at hv1
  generalize List.length bs = n3 at hv3
  subst hv0 hv1 hv3
  clear D1 X1 B1 b2 I0 I1 I3 hw
  obtain ⟨q0, q1, q2, q3⟩ := X2.cells4
  have fz := X2.frozen
  obtain ⟨p0, p1, p2, p3⟩ : _ ∧ _ ∧ _ ∧ _ := Box.cells4 (show Box ((((w2.setCell ⟨w.heap.size, 0, none⟩ (.slice s0 n0 k0)).setCell ⟨w.heap.size, 1, none⟩ (.slice s1 n1 k1)).setCell ⟨w.heap.size, 2, none⟩ (.bool f)).setCell ⟨w.heap.size, 3, none⟩ (.slice s3 n3 k3)) w.heap.size 44 #[.slice s0 n0 k0, .slice s1 n1 k1, .bool f, .slice s3 n3 k3] from (((X2.set 0 (.slice s0 n0 k0)).set 1 (.slice s1 n1 k1)).set 2 (.bool f)).set 3 (.slice s3 n3 k3))
  have hbt : But w.heap.size (w.heap.size + 1) w2 ((((w2.setCell ⟨w.heap.size, 0, none⟩ (.slice s0 n0 k0)).setCell ⟨w.heap.size, 1, none⟩ (.slice s1 n1 k1)).setCell ⟨w.heap.size, 2, none⟩ (.bool f)).setCell ⟨w.heap.size, 3, none⟩ (.slice s3 n3 k3)) := (((But.setCell (by omega) (by omega) _).trans (But.setCell (by omega) (by omega) _)).trans (But.setCell (by omega) (by omega) _)).trans (But.setCell (by omega) (by omega) _)
  have K0 := hidden (J0.out.but hbt (.inr (by omega))).rd
  have K1 := hidden (J1.out.but hbt (.inr (by omega))).rd
  have K3 := hidden (J3.out.but hbt (.inr (by omega))).rd
  have KB := hidden (Below.andBut B2 hbt (Nat.le_refl _))
  clear hbt X2 B2 D2 J0 J1 J3
  go_wp2
  refine bodyPost_ret (v := .agg #[.slice s0 n0 k0, .slice s1 n1 k1, .bool f, .slice s3 n3 k3]) (by simp [results, Try.results34, go_sem, p0, p1, p2, p3]) rfl ?_
  exact ⟨_, _, _, ss, cs, f, bs, rfl, K0.out, K1.out, K3.out, HW.out, KB.out⟩

set_option maxHeartbeats 3200000 in
theorem dDrawFailMem_any (w : World) (a : Option Addr) (lb cb : Nat) (zs : List Int) (hz : zs.length = lb) (hr : Reads .u8 w a zs) (hby : ∀ n ∈ zs, 0 ≤ n ∧ n ≤ 255) (hlb : lb ≤ 2097152) :
    Calls Try.prog 40 #[.slice a lb cb] w fun e w' => DrawnMem w (fun m => m) e w' := by
  have hA : Below w.heap.size w (w.alloc (.cells #[.slice none 0 0, .slice none 0 0, .bool false, .slice none 0 0] 44)) := (Below.refl _ _).alloc (Nat.le_refl _) _
  have X := Box.new w 44 #[.slice none 0 0, .slice none 0 0, .bool false, .slice none 0 0]
  have zA := X.lt
  go_enter Try.func40, Try.ntmps40
  go_wp2_with fail
  generalize w.alloc (.cells #[.slice none 0 0, .slice none 0 0, .bool false, .slice none 0 0] 44) = W at hA X zA ⊢
  refine (l1New_any _ _ _ _ zs hz (hr.below hA) hlb).mono ?_
  rintro e w1 ⟨rfl, hc1, hb1⟩
  have D1 : Draws w1 W.heap.size a lb cb zs := ⟨hc1, hz, (hr.below hA).below hb1, hby, hlb, (hr.below hA).ahead hz⟩
  have B1 := Below.andThen hA hb1
  have X1 := X.below hb1 zA
  have zD := D1.lt
  clear hc1 hA X hb1
  go_wp2_with fail
  refine (l2Any_any D1).mono ?_
  rintro e w2 ⟨v0, v1, v3, ss, cs, f, bs, rfl, I0, I1, I3, hw, D2, b2⟩
  have X2 : Box w2 w.heap.size 44 #[.slice none 0 0, .slice none 0 0, .bool false, .slice none 0 0] := X1.kept (b2.block _ X1.lt (.inl (by omega)))
  have B2 := Below.andBut B1 b2 (by omega)
  have J0 := hidden I0
  have J1 := hidden I1
  have J3 := hidden I3
  have HW := hidden hw
  obtain ⟨s0, k0, hv0⟩ := row_shape I0.rd
  obtain ⟨s1, k1, hv1⟩ := row_shape I1.rd
  obtain ⟨s3, k3, hv3⟩ := row_shape I3.rd
  generalize List.length ss = n0 at hv0
  generalize List.length cs = n1 at hv1
  generalize List.length bs = n3 at hv3
  subst hv0 hv1 hv3
  clear D1 X1 B1 b2 I0 I1 I3 hw
  obtain ⟨q0, q1, q2, q3⟩ := X2.cells4
  have fz := X2.frozen
  obtain ⟨p0, p1, p2, p3⟩ : _ ∧ _ ∧ _ ∧ _ := Box.cells4 (show Box ((((w2.setCell ⟨w.heap.size, 0, none⟩ (.slice s0 n0 k0)).setCell ⟨w.heap.size, 1, none⟩ (.slice s1 n1 k1)).setCell ⟨w.heap.size, 2, none⟩ (.bool f)).setCell ⟨w.heap.size, 3, none⟩ (.slice s3 n3 k3)) w.heap.size 44 #[.slice s0 n0 k0, .slice s1 n1 k1, .bool f, .slice s3 n3 k3] from (((X2.set 0 (.slice s0 n0 k0)).set 1 (.slice s1 n1 k1)).set 2 (.bool f)).set 3 (.slice s3 n3 k3))
  have hbt : But w.heap.size (w.heap.size + 1) w2 ((((w2.setCell ⟨w.heap.size, 0, none⟩ (.slice s0 n0 k0)).setCell ⟨w.heap.size, 1, none⟩ (.slice s1 n1 k1)).setCell ⟨w.heap.size, 2, none⟩ (.bool f)).setCell ⟨w.heap.size, 3, none⟩ (.slice s3 n3 k3)) := (((But.setCell (by omega) (by omega) _).trans (But.setCell (by omega) (by omega) _)).trans (But.setCell (by omega) (by omega) _)).trans (But.setCell (by omega) (by omega) _)
  have K0 := hidden (J0.out.but hbt (.inr (by omega))).rd
  have K1 := hidden (J1.out.but hbt (.inr (by omega))).rd
  have K3 := hidden (J3.out.but hbt (.inr (by omega))).rd
  have KB := hidden (Below.andBut B2 hbt (Nat.le_refl _))
  clear hbt X2 B2 D2 J0 J1 J3
  go_wp2
  refine bodyPost_ret (v := .agg #[.slice s0 n0 k0, .slice s1 n1 k1, .bool f, .slice s3 n3 k3]) (by simp [results, Try.results40, go_sem, p0, p1, p2, p3]) rfl ?_
  exact ⟨_, _, _, ss, cs, f, bs, rfl, K0.out, K1.out, K3.out, HW.out, KB.out⟩


set_option maxHeartbeats 3200000 in
theorem dDrawReadSec_any (w : World) (a : Option Addr) (lb cb : Nat) (zs : List Int) (hz : zs.length = lb) (hr : Reads .u8 w a zs) (hby : ∀ n ∈ zs, 0 ≤ n ∧ n ≤ 255) (hlb : lb ≤ 2097152) :
    Calls Try.prog 35 #[.slice a lb cb] w fun e w' => ∃ (x0 : Int), DrawnMem w (fun m => .tuple #[m, .int .i64 x0]) e w' := by
  have hA : Below w.heap.size w (w.alloc (.cells #[.slice none 0 0, .slice none 0 0, .bool false, .slice none 0 0] 44)) := (Below.refl _ _).alloc (Nat.le_refl _) _
  have X := Box.new w 44 #[.slice none 0 0, .slice none 0 0, .bool false, .slice none 0 0]
  have zA := X.lt
  go_enter Try.func35, Try.ntmps35
  go_wp2_with fail
  generalize w.alloc (.cells #[.slice none 0 0, .slice none 0 0, .bool false, .slice none 0 0] 44) = W at hA X zA ⊢
  refine (l1New_any _ _ _ _ zs hz (hr.below hA) hlb).mono ?_
  rintro e w1 ⟨rfl, hc1, hb1⟩
  have D1 : Draws w1 W.heap.size a lb cb zs := ⟨hc1, hz, (hr.below hA).below hb1, hby, hlb, (hr.below hA).ahead hz⟩
  have B1 := Below.andThen hA hb1
  have X1 := X.below hb1 zA
  have zD := D1.lt
  clear hc1 hA X hb1
  go_wp2_with fail
  refine (l2Any_any D1).mono ?_
  rintro e w2 ⟨v0, v1, v3, ss, cs, f, bs, rfl, I0, I1, I3, hw, D2, b2⟩
  have X2 : Box w2 w.heap.size 44 #[.slice none 0 0, .slice none 0 0, .bool false, .slice none 0 0] := X1.kept (b2.block _ X1.lt (.inl (by omega)))
  have B2 := Below.andBut B1 b2 (by omega)
  have J0 := hidden I0
  have J1 := hidden I1
  have J3 := hidden I3
  have HW := hidden hw
  obtain ⟨s0, k0, hv0⟩ := row_shape I0.rd
  obtain ⟨s1, k1, hv1⟩ := row_shape I1.rd
  obtain ⟨s3, k3, hv3⟩ := row_shape I3.rd
  generalize List.length ss = n0 at hv0
  generalize List.length cs = n1 at hv1
  generalize List.length bs = n3 at hv3
  subst hv0 hv1 hv3
  clear D1 X1 B1 b2 I0 I1 I3 hw
  go_wp2_with fail
  refine (l2Sector_any D2).mono ?_
  rintro e w3 ⟨x0, rfl, D3, b⟩
  have X3 : Box w3 w.heap.size 44 #[.slice none 0 0, .slice none 0 0, .bool false, .slice none 0 0] := X2.kept (b.block _ X2.lt (.inl (by omega)))
  have B3 := Below.andBut B2 b (by omega)
  have J0' := hidden (J0.out.but b (.inr (by omega)))
  have J1' := hidden (J1.out.but b (.inr (by omega)))
  have J3' := hidden (J3.out.but b (.inr (by omega)))
  clear J0 J1 J3 X2 B2 D2 b
  have J0 := J0'
  have J1 := J1'
  have J3 := J3'
  clear J0' J1' J3'
  obtain ⟨q0, q1, q2, q3⟩ := X3.cells4
  have fz := X3.frozen
  obtain ⟨p0, p1, p2, p3⟩ : _ ∧ _ ∧ _ ∧ _ := Box.cells4 (show Box ((((w3.setCell ⟨w.heap.size, 0, none⟩ (.slice s0 n0 k0)).setCell ⟨w.heap.size, 1, none⟩ (.slice s1 n1 k1)).setCell ⟨w.heap.size, 2, none⟩ (.bool f)).setCell ⟨w.heap.size, 3, none⟩ (.slice s3 n3 k3)) w.heap.size 44 #[.slice s0 n0 k0, .slice s1 n1 k1, .bool f, .slice s3 n3 k3] from (((X3.set 0 (.slice s0 n0 k0)).set 1 (.slice s1 n1 k1)).set 2 (.bool f)).set 3 (.slice s3 n3 k3))
  have hbt : But w.heap.size (w.heap.size + 1) w3 ((((w3.setCell ⟨w.heap.size, 0, none⟩ (.slice s0 n0 k0)).setCell ⟨w.heap.size, 1, none⟩ (.slice s1 n1 k1)).setCell ⟨w.heap.size, 2, none⟩ (.bool f)).setCell ⟨w.heap.size, 3, none⟩ (.slice s3 n3 k3)) := (((But.setCell (by omega) (by omega) _).trans (But.setCell (by omega) (by omega) _)).trans (But.setCell (by omega) (by omega) _)).trans (But.setCell (by omega) (by omega) _)
  have K0 := hidden (J0.out.but hbt (.inr (by omega))).rd
  have K1 := hidden (J1.out.but hbt (.inr (by omega))).rd
  have K3 := hidden (J3.out.but hbt (.inr (by omega))).rd
  have KB := hidden (Below.andBut B3 hbt (Nat.le_refl _))
  clear hbt X3 B3 D3 J0 J1 J3
  go_wp2
  refine bodyPost_ret (v := .tuple #[.agg #[.slice s0 n0 k0, .slice s1 n1 k1, .bool f, .slice s3 n3 k3], .int .i64 x0]) (by simp [results, Try.results35, go_sem, p0, p1, p2, p3]) rfl ?_
  exact ⟨x0, _, _, _, ss, cs, f, bs, rfl, K0.out, K1.out, K3.out, HW.out, KB.out⟩

set_option maxHeartbeats 3200000 in
theorem dDrawSpoilSec_any (w : World) (a : Option Addr) (lb cb : Nat) (zs : List Int) (hz : zs.length = lb) (hr : Reads .u8 w a zs) (hby : ∀ n ∈ zs, 0 ≤ n ∧ n ≤ 255) (hlb : lb ≤ 2097152) :
    Calls Try.prog 38 #[.slice a lb cb] w fun e w' => ∃ (x0 : Int), DrawnMem w (fun m => .tuple #[m, .int .i64 x0]) e w' := by
  have hA : Below w.heap.size w (w.alloc (.cells #[.slice none 0 0, .slice none 0 0, .bool false, .slice none 0 0] 44)) := (Below.refl _ _).alloc (Nat.le_refl _) _
  have X := Box.new w 44 #[.slice none 0 0, .slice none 0 0, .bool false, .slice none 0 0]
  have zA := X.lt
  go_enter Try.func38, Try.ntmps38
  go_wp2_with fail
  generalize w.alloc (.cells #[.slice none 0 0, .slice none 0 0, .bool false, .slice none 0 0] 44) = W at hA X zA ⊢
  refine (l1New_any _ _ _ _ zs hz (hr.below hA) hlb).mono ?_
  rintro e w1 ⟨rfl, hc1, hb1⟩
  have D1 : Draws w1 W.heap.size a lb cb zs := ⟨hc1, hz, (hr.below hA).below hb1, hby, hlb, (hr.below hA).ahead hz⟩
  have B1 := Below.andThen hA hb1
  have X1 := X.below hb1 zA
  have zD := D1.lt
  clear hc1 hA X hb1
  go_wp2_with fail
  refine (l2Any_any D1).mono ?_
  rintro e w2 ⟨v0, v1, v3, ss, cs, f, bs, rfl, I0, I1, I3, hw, D2, b2⟩
  have X2 : Box w2 w.heap.size 44 #[.slice none 0 0, .slice none 0 0, .bool false, .slice none 0 0] := X1.kept (b2.block _ X1.lt (.inl (by omega)))
  have B2 := Below.andBut B1 b2 (by omega)
  have J0 := hidden I0
  have J1 := hidden I1
  have J3 := hidden I3
  have HW := hidden hw
  obtain ⟨s0, k0, hv0⟩ := row_shape I0.rd
  obtain ⟨s1, k1, hv1⟩ := row_shape I1.rd
  obtain ⟨s3, k3, hv3⟩ := row_shape I3.rd
  generalize List.length ss = n0 at hv0
  generalize List.length cs = n1 at hv1
  generalize List.length bs = n3 at hv3
  subst hv0 hv1 hv3
  clear D1 X1 B1 b2 I0 I1 I3 hw
  go_wp2_with fail
  refine (l2Sector_any D2).mono ?_
  rintro e w3 ⟨x0, rfl, D3, b⟩
  have X3 : Box w3 w.heap.size 44 #[.slice none 0 0, .slice none 0 0, .bool false, .slice none 0 0] := X2.kept (b.block _ X2.lt (.inl (by omega)))
  have B3 := Below.andBut B2 b (by omega)
  have J0' := hidden (J0.out.but b (.inr (by omega)))
  have J1' := hidden (J1.out.but b (.inr (by omega)))
  have J3' := hidden (J3.out.but b (.inr (by omega)))
  clear J0 J1 J3 X2 B2 D2 b
  have J0 := J0'
  have J1 := J1'
  have J3 := J3'
  clear J0' J1' J3'
  obtain ⟨q0, q1, q2, q3⟩ := X3.cells4
  have fz := X3.frozen
  obtain ⟨p0, p1, p2, p3⟩ : _ ∧ _ ∧ _ ∧ _ := Box.cells4 (show Box ((((w3.setCell ⟨w.heap.size, 0, none⟩ (.slice s0 n0 k0)).setCell ⟨w.heap.size, 1, none⟩ (.slice s1 n1 k1)).setCell ⟨w.heap.size, 2, none⟩ (.bool f)).setCell ⟨w.heap.size, 3, none⟩ (.slice s3 n3 k3)) w.heap.size 44 #[.slice s0 n0 k0, .slice s1 n1 k1, .bool f, .slice s3 n3 k3] from (((X3.set 0 (.slice s0 n0 k0)).set 1 (.slice s1 n1 k1)).set 2 (.bool f)).set 3 (.slice s3 n3 k3))
  have hbt : But w.heap.size (w.heap.size + 1) w3 ((((w3.setCell ⟨w.heap.size, 0, none⟩ (.slice s0 n0 k0)).setCell ⟨w.heap.size, 1, none⟩ (.slice s1 n1 k1)).setCell ⟨w.heap.size, 2, none⟩ (.bool f)).setCell ⟨w.heap.size, 3, none⟩ (.slice s3 n3 k3)) := (((But.setCell (by omega) (by omega) _).trans (But.setCell (by omega) (by omega) _)).trans (But.setCell (by omega) (by omega) _)).trans (But.setCell (by omega) (by omega) _)
  have K0 := hidden (J0.out.but hbt (.inr (by omega))).rd
  have K1 := hidden (J1.out.but hbt (.inr (by omega))).rd
  have K3 := hidden (J3.out.but hbt (.inr (by omega))).rd
  have KB := hidden (Below.andBut B3 hbt (Nat.le_refl _))
  clear hbt X3 B3 D3 J0 J1 J3
  go_wp2
  refine bodyPost_ret (v := .tuple #[.agg #[.slice s0 n0 k0, .slice s1 n1 k1, .bool f, .slice s3 n3 k3], .int .i64 x0]) (by simp [results, Try.results38, go_sem, p0, p1, p2, p3]) rfl ?_
  exact ⟨x0, _, _, _, ss, cs, f, bs, rfl, K0.out, K1.out, K3.out, HW.out, KB.out⟩

set_option maxHeartbeats 3200000 in
theorem dDrawFallMem_any (w : World) (a : Option Addr) (lb cb : Nat) (zs : List Int) (hz : zs.length = lb) (hr : Reads .u8 w a zs) (hby : ∀ n ∈ zs, 0 ≤ n ∧ n ≤ 255) (hlb : lb ≤ 2097152) :
    Calls Try.prog 37 #[.slice a lb cb] w fun e w' => ∃ (x0 : Int), DrawnMem w (fun m => .tuple #[m, .int .i64 x0]) e w' := by
  have hA : Below w.heap.size w (w.alloc (.cells #[.slice none 0 0, .slice none 0 0, .bool false, .slice none 0 0] 44)) := (Below.refl _ _).alloc (Nat.le_refl _) _
  have X := Box.new w 44 #[.slice none 0 0, .slice none 0 0, .bool false, .slice none 0 0]
  have zA := X.lt
  go_enter Try.func37, Try.ntmps37
  go_wp2_with fail
  generalize w.alloc (.cells #[.slice none 0 0, .slice none 0 0, .bool false, .slice none 0 0] 44) = W at hA X zA ⊢
  refine (l1New_any _ _ _ _ zs hz (hr.below hA) hlb).mono ?_
  rintro e w1 ⟨rfl, hc1, hb1⟩
  have D1 : Draws w1 W.heap.size a lb cb zs := ⟨hc1, hz, (hr.below hA).below hb1, hby, hlb, (hr.below hA).ahead hz⟩
  have B1 := Below.andThen hA hb1
  have X1 := X.below hb1 zA
  have zD := D1.lt
  clear hc1 hA X hb1
  go_wp2_with fail
  refine (l2Any_any D1).mono ?_
  rintro e w2 ⟨v0, v1, v3, ss, cs, f, bs, rfl, I0, I1, I3, hw, D2, b2⟩
  have X2 : Box w2 w.heap.size 44 #[.slice none 0 0, .slice none 0 0, .bool false, .slice none 0 0] := X1.kept (b2.block _ X1.lt (.inl (by omega)))
  have B2 := Below.andBut B1 b2 (by omega)
  have J0 := hidden I0
  have J1 := hidden I1
  have J3 := hidden I3
  have HW := hidden hw
  obtain ⟨s0, k0, hv0⟩ := row_shape I0.rd
  obtain ⟨s1, k1, hv1⟩ := row_shape I1.rd
  obtain ⟨s3, k3, hv3⟩ := row_shape I3.rd
  generalize List.length ss = n0 at hv0
  generalize List.length cs = n1 at hv1
  generalize List.length bs = n3 at hv3
  subst hv0 hv1 hv3
  clear D1 X1 B1 b2 I0 I1 I3 hw
  have HR0 := hidden (Reads.new .i64 w2 3 [0, 1, 2, 3, 5, 10, 1048575, -1, 1048576] _ rfl)
  go_wp2_with fail
  refine (dInt (D2.alloc _) _ 9 _ [0, 1, 2, 3, 5, 10, 1048575, -1, 1048576] rfl HR0.out (fun x hx => by simp at hx; subst hx; exact D2.lt) (by omega) (by omega)).mono ?_
  rintro e w3 ⟨x0, rfl, _, D3, b0⟩
  have b : But W.heap.size (W.heap.size + 1) w2 w3 := ((But.refl _ _ _).alloc _).trans b0
  clear b0
  have X3 : Box w3 w.heap.size 44 #[.slice none 0 0, .slice none 0 0, .bool false, .slice none 0 0] := X2.kept (b.block _ X2.lt (.inl (by omega)))
  have B3 := Below.andBut B2 b (by omega)
  have J0' := hidden (J0.out.but b (.inr (by omega)))
  have J1' := hidden (J1.out.but b (.inr (by omega)))
  have J3' := hidden (J3.out.but b (.inr (by omega)))
  clear J0 J1 J3 X2 B2 D2 b
  have J0 := J0'
  have J1 := J1'
  have J3 := J3'
  clear J0' J1' J3'
  obtain ⟨q0, q1, q2, q3⟩ := X3.cells4
  have fz := X3.frozen
  obtain ⟨p0, p1, p2, p3⟩ : _ ∧ _ ∧ _ ∧ _ := Box.cells4 (show Box ((((w3.setCell ⟨w.heap.size, 0, none⟩ (.slice s0 n0 k0)).setCell ⟨w.heap.size, 1, none⟩ (.slice s1 n1 k1)).setCell ⟨w.heap.size, 2, none⟩ (.bool f)).setCell ⟨w.heap.size, 3, none⟩ (.slice s3 n3 k3)) w.heap.size 44 #[.slice s0 n0 k0, .slice s1 n1 k1, .bool f, .slice s3 n3 k3] from (((X3.set 0 (.slice s0 n0 k0)).set 1 (.slice s1 n1 k1)).set 2 (.bool f)).set 3 (.slice s3 n3 k3))
  have hbt : But w.heap.size (w.heap.size + 1) w3 ((((w3.setCell ⟨w.heap.size, 0, none⟩ (.slice s0 n0 k0)).setCell ⟨w.heap.size, 1, none⟩ (.slice s1 n1 k1)).setCell ⟨w.heap.size, 2, none⟩ (.bool f)).setCell ⟨w.heap.size, 3, none⟩ (.slice s3 n3 k3)) := (((But.setCell (by omega) (by omega) _).trans (But.setCell (by omega) (by omega) _)).trans (But.setCell (by omega) (by omega) _)).trans (But.setCell (by omega) (by omega) _)
  have K0 := hidden (J0.out.but hbt (.inr (by omega))).rd
  have K1 := hidden (J1.out.but hbt (.inr (by omega))).rd
  have K3 := hidden (J3.out.but hbt (.inr (by omega))).rd
  have KB := hidden (Below.andBut B3 hbt (Nat.le_refl _))
  clear hbt X3 B3 D3 J0 J1 J3
  go_wp2
  refine bodyPost_ret (v := .tuple #[.agg #[.slice s0 n0 k0, .slice s1 n1 k1, .bool f, .slice s3 n3 k3], .int .i64 x0]) (by simp [results, Try.results37, go_sem, p0, p1, p2, p3]) rfl ?_
  exact ⟨x0, _, _, _, ss, cs, f, bs, rfl, K0.out, K1.out, K3.out, HW.out, KB.out⟩

set_option maxHeartbeats 3200000 in
theorem dDrawWriteSec_any (w : World) (a : Option Addr) (lb cb : Nat) (zs : List Int) (hz : zs.length = lb) (hr : Reads .u8 w a zs) (hby : ∀ n ∈ zs, 0 ≤ n ∧ n ≤ 255) (hlb : lb ≤ 2097152) :
    Calls Try.prog 25 #[.slice a lb cb] w fun e w' => ∃ (x0 : Int) (v1_ : Value) (xs1 : List Int), xs1.length ≤ 13 ∧ Owns .i64 3 w' w.heap.size v1_ xs1 ∧ DrawnMem w (fun m => .tuple #[m, .int .i64 x0, v1_]) e w' := by
  have hA : Below w.heap.size w (w.alloc (.cells #[.slice none 0 0, .slice none 0 0, .bool false, .slice none 0 0] 44)) := (Below.refl _ _).alloc (Nat.le_refl _) _
  have X := Box.new w 44 #[.slice none 0 0, .slice none 0 0, .bool false, .slice none 0 0]
  have zA := X.lt
  go_enter Try.func25, Try.ntmps25
  go_wp2_with fail
  generalize w.alloc (.cells #[.slice none 0 0, .slice none 0 0, .bool false, .slice none 0 0] 44) = W at hA X zA ⊢
  refine (l1New_any _ _ _ _ zs hz (hr.below hA) hlb).mono ?_
  rintro e w1 ⟨rfl, hc1, hb1⟩
  have D1 : Draws w1 W.heap.size a lb cb zs := ⟨hc1, hz, (hr.below hA).below hb1, hby, hlb, (hr.below hA).ahead hz⟩
  have B1 := Below.andThen hA hb1
  have X1 := X.below hb1 zA
  have zD := D1.lt
  clear hc1 hA X hb1
  go_wp2_with fail
  refine (l2Any_any D1).mono ?_
  rintro e w2 ⟨v0, v1, v3, ss, cs, f, bs, rfl, I0, I1, I3, hw, D2, b2⟩
  have X2 : Box w2 w.heap.size 44 #[.slice none 0 0, .slice none 0 0, .bool false, .slice none 0 0] := X1.kept (b2.block _ X1.lt (.inl (by omega)))
  have B2 := Below.andBut B1 b2 (by omega)
  have J0 := hidden I0
  have J1 := hidden I1
  have J3 := hidden I3
  have HW := hidden hw
  obtain ⟨s0, k0, hv0⟩ := row_shape I0.rd
  obtain ⟨s1, k1, hv1⟩ := row_shape I1.rd
  obtain ⟨s3, k3, hv3⟩ := row_shape I3.rd
  generalize List.length ss = n0 at hv0
  generalize List.length cs = n1 at hv1
  generalize List.length bs = n3 at hv3
  subst hv0 hv1 hv3
  clear D1 X1 B1 b2 I0 I1 I3 hw
  go_wp2_with fail
  refine (l2Sector_any D2).mono ?_
  rintro e w3 ⟨x0, rfl, D3, b⟩
  have X3 : Box w3 w.heap.size 44 #[.slice none 0 0, .slice none 0 0, .bool false, .slice none 0 0] := X2.kept (b.block _ X2.lt (.inl (by omega)))
  have B3 := Below.andBut B2 b (by omega)
  have J0' := hidden (J0.out.but b (.inr (by omega)))
  have J1' := hidden (J1.out.but b (.inr (by omega)))
  have J3' := hidden (J3.out.but b (.inr (by omega)))
  clear J0 J1 J3 X2 B2 D2 b
  have J0 := J0'
  have J1 := J1'
  have J3 := J3'
  clear J0' J1' J3'
  go_wp2_with fail
  refine (l1Any_any D3).mono ?_
  rintro e w4 ⟨v1_, xs1, rfl, hx1, ho1, D4, b⟩
  have X4 : Box w4 w.heap.size 44 #[.slice none 0 0, .slice none 0 0, .bool false, .slice none 0 0] := X3.kept (b.block _ X3.lt (.inl (by omega)))
  have B4 := Below.andBut B3 b (by omega)
  have J0' := hidden (J0.out.but b (.inr (by omega)))
  have J1' := hidden (J1.out.but b (.inr (by omega)))
  have J3' := hidden (J3.out.but b (.inr (by omega)))
  have hsz1 := D3.lt
  obtain ⟨av1, cv1, hav1, _, _⟩ := ho1.shape
  have HO1 := hidden (ho1.lower (base' := w.heap.size + 1) (by have := B3.size; omega))
  subst hav1
  clear ho1
  clear J0 J1 J3 X3 B3 D3 b
  have J0 := J0'
  have J1 := J1'
  have J3 := J3'
  clear J0' J1' J3'
  obtain ⟨q0, q1, q2, q3⟩ := X4.cells4
  have fz := X4.frozen
  obtain ⟨p0, p1, p2, p3⟩ : _ ∧ _ ∧ _ ∧ _ := Box.cells4 (show Box ((((w4.setCell ⟨w.heap.size, 0, none⟩ (.slice s0 n0 k0)).setCell ⟨w.heap.size, 1, none⟩ (.slice s1 n1 k1)).setCell ⟨w.heap.size, 2, none⟩ (.bool f)).setCell ⟨w.heap.size, 3, none⟩ (.slice s3 n3 k3)) w.heap.size 44 #[.slice s0 n0 k0, .slice s1 n1 k1, .bool f, .slice s3 n3 k3] from (((X4.set 0 (.slice s0 n0 k0)).set 1 (.slice s1 n1 k1)).set 2 (.bool f)).set 3 (.slice s3 n3 k3))
  have hbt : But w.heap.size (w.heap.size + 1) w4 ((((w4.setCell ⟨w.heap.size, 0, none⟩ (.slice s0 n0 k0)).setCell ⟨w.heap.size, 1, none⟩ (.slice s1 n1 k1)).setCell ⟨w.heap.size, 2, none⟩ (.bool f)).setCell ⟨w.heap.size, 3, none⟩ (.slice s3 n3 k3)) := (((But.setCell (by omega) (by omega) _).trans (But.setCell (by omega) (by omega) _)).trans (But.setCell (by omega) (by omega) _)).trans (But.setCell (by omega) (by omega) _)
  have K0 := hidden (J0.out.but hbt (.inr (by omega))).rd
  have K1 := hidden (J1.out.but hbt (.inr (by omega))).rd
  have K3 := hidden (J3.out.but hbt (.inr (by omega))).rd
  have KB := hidden (Below.andBut B4 hbt (Nat.le_refl _))
  have KO1 := hidden ((HO1.out.own.but hbt (.inr (Nat.le_refl _))).1.lower (base' := w.heap.size) (by omega))
  clear hbt X4 B4 D4 J0 J1 J3
  go_wp2
  refine bodyPost_ret (v := .tuple #[.agg #[.slice s0 n0 k0, .slice s1 n1 k1, .bool f, .slice s3 n3 k3], .int .i64 x0, .slice av1 xs1.length cv1]) (by simp [results, Try.results25, go_sem, p0, p1, p2, p3]) rfl ?_
  exact ⟨x0, _, xs1, hx1, KO1.out, _, _, _, ss, cs, f, bs, rfl, K0.out, K1.out, K3.out, HW.out, KB.out⟩

theorem dDrawMemNew_any (w : World) (a : Option Addr) (lb cb : Nat) (zs : List Int) (hz : zs.length = lb) (hr : Reads .u8 w a zs) (hby : ∀ n ∈ zs, 0 ≤ n ∧ n ≤ 255) (hlb : lb ≤ 2097152) :
    Calls Try.prog 39 #[.slice a lb cb] w fun e w' => ∃ x : Int, e = .returned (.int .i64 x) ∧ x ∈ [(1 : Int), 7, 20, 0, 21, -1] ∧ Below w.heap.size w w' := by
  go_enter Try.func39, Try.ntmps39
  go_wp2_with fail
  refine (l1New_any _ _ _ _ zs hz hr hlb).mono ?_
  rintro e w1 ⟨rfl, hc1, hb1⟩
  have D1 : Draws w1 w.heap.size a lb cb zs := ⟨hc1, hz, hr.below hb1, hby, hlb, hr.ahead hz⟩
  have HR := hidden (Reads.new .i64 w1 3 [1, 7, 20, 0, 21, -1] _ rfl)
  clear hc1
  go_wp2_with fail
  refine (dInt (D1.alloc _) _ 6 _ [1, 7, 20, 0, 21, -1] rfl HR.out (fun x hx => by simp at hx; subst hx; exact D1.lt) (by omega) (by omega)).mono ?_
  rintro e w2 ⟨x, rfl, hx, D2, b2⟩
  go_wp2
  go_ret
  exact ⟨x, rfl, hx, Below.andBut (hb1.alloc hb1.size _) b2 (Nat.le_refl _)⟩

end Go.Proofs.Ytmkiljflkndmoaa

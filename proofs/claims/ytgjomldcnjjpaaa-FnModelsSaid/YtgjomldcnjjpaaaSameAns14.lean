/-
  The laws' sameAns and sameAnss: of the same answers they answer true. And 'append' of a row of one's own to another. Conditions: at most 2097152 in all.
-/
import Derived.Test.YtgjomldcnjjpaaaAnsS14
import Derived.Test.YtgjomldcnjjpaaaGrowN
namespace Go.Proofs.Ytgjomldcnjjpaaa
open Go.RowKit

set_option maxHeartbeats 1600000 in
theorem sameAns_same (w : World) (d c : Int) (a a' : Option Addr) (la ca cb : Nat) (zs : List Int) (h : tIntS.Rd w [.slice a la ca] zs) (h' : tIntS.Rd w [.slice a' la cb] zs) (hla : la ≤ 2097152) :
    Calls Try.prog 17 #[.agg #[.int .i64 d, .int .i64 c, .slice a la ca], .agg #[.int .i64 d, .int .i64 c, .slice a' la cb]] w fun e w' => e = .returned (.bool true) ∧ Below w.heap.size w w' := by
  have hA : Below w.heap.size w ((w.alloc (.cells #[.int .i64 d, .int .i64 c, .slice a la ca] 44)).alloc (.cells #[.int .i64 d, .int .i64 c, .slice a' la cb] 44)) := ((Below.refl _ _).alloc (Nat.le_refl _) _).alloc (by simp) _
  obtain ⟨r1, hl, _, _⟩ := ints_rd (h.below hA)
  obtain ⟨r2, _, _, _⟩ := ints_rd (h'.below hA)
  have hd : decide (zs = zs) = true := by simp
  have h1 : (d == d) = true := by simp
  have h2 : (c == c) = true := by simp
  go_enter Try.func17, Try.ntmps17
  go_wp2_with fail
  refine (sameInts_any _ _ _ _ _ _ _ zs zs hl hl r1 r2 hla).mono ?_
  rintro e w1 ⟨rfl, hs1⟩
  go_wp2
  go_ret
  exact ⟨rfl, Below.andSame hA hs1⟩

set_option maxHeartbeats 1600000 in
theorem sameAnss_same (w : World) (E E' : TypeId) (a a' : Option Addr) (n ca cb : Nat) (d : List AnsD) (h : (tAnsS E).Rd w [.slice a n ca] d) (h' : (tAnsS E').Rd w [.slice a' n cb] d) (hw : wttAnsS d ≤ 2097152) :
    Calls Try.prog 12 #[.slice a n ca, .slice a' n cb] w fun e w' => e = .returned (.bool true) ∧ Below w.heap.size w w' := by
  obtain ⟨hl, hc, hm⟩ := row_length h
  have hn : n ≤ 2097152 := by unfold wttAnsS at hw; omega
  go_enter Try.func12, Try.ntmps12
  go_wp2
  go_loopw [5] (fun i wr => ∃ j : Nat, j ≤ n ∧ i = .int .i64 j ∧ Below w.heap.size w wr) (fun i _ => n - (intOf i).toNat)
  case atStart => exact ⟨0, Nat.zero_le _, rfl, Below.refl _ _⟩
  case round =>
    obtain ⟨j, hj, rfl, hb⟩ := hrel
    by_cases hjn : j < n
    · rcases ansS_at h with h0' | ⟨b, off, rfl, hbl, hcs⟩
      · omega
      rcases ansS_at h' with h0' | ⟨b2, off2, rfl, hbl2, hcs2⟩
      · omega
      obtain ⟨d1, c1, zs, hdj⟩ : ∃ d1 c1 zs, d[j]? = some (d1, c1, zs) := ⟨_, _, _, List.getElem?_eq_getElem (by omega)⟩
      have hin := ans_inner hdj
      have hlen : zs.length ≤ 2097152 := by unfold wttAnsS at hw; simp only at hin; omega
      obtain ⟨av, cv, hc0, hc1, hc2, hrv⟩ := hcs j d1 c1 zs hdj
      obtain ⟨av2, cv2, hd0, hd1, hd2, hrv2⟩ := hcs2 j d1 c1 zs hdj
      have hw0 := (hb.cell (p := ⟨b, off + j * 3, none⟩) hbl).trans hc0
      have hw1 := (hb.cell (p := ⟨b, off + j * 3 + 1, none⟩) hbl).trans hc1
      have hw2 := (hb.cell (p := ⟨b, off + j * 3 + 2, none⟩) hbl).trans hc2
      have hu0 := (hb.cell (p := ⟨b2, off2 + j * 3, none⟩) hbl2).trans hd0
      have hu1 := (hb.cell (p := ⟨b2, off2 + j * 3 + 1, none⟩) hbl2).trans hd1
      have hu2 := (hb.cell (p := ⟨b2, off2 + j * 3 + 2, none⟩) hbl2).trans hd2
      have r1 := hrv.below hb
      have r2 := hrv2.below hb
      have zx : b < wr.heap.size := Nat.lt_of_lt_of_le hbl hb.size
      have zy : b2 < wr.heap.size := Nat.lt_of_lt_of_le hbl2 hb.size
      have i1 : (0 : Int) ≤ (j : Int) := by omega
      have i2 : (j : Int) < (n : Int) := by omega
      clear hcs hcs2 hdj hc0 hc1 hc2 hd0 hd1 hd2 hrv hrv2 hin
      go_wp2_with fail
      go_region_held3 (fun w' => w'.cell? ⟨b, off + j * 3, none⟩ = some (.int .i64 d1) ∧ w'.cell? ⟨b, off + j * 3 + 1, none⟩ = some (.int .i64 c1) ∧ w'.cell? ⟨b, off + j * 3 + 2, none⟩ = some (.slice av zs.length cv) ∧ w'.cell? ⟨b2, off2 + j * 3, none⟩ = some (.int .i64 d1) ∧ w'.cell? ⟨b2, off2 + j * 3 + 1, none⟩ = some (.int .i64 c1) ∧ w'.cell? ⟨b2, off2 + j * 3 + 2, none⟩ = some (.slice av2 zs.length cv2))
        (first | (exact ⟨(hbC.cell (p := ⟨b, off + j * 3, none⟩) zx).trans hw0, (hbC.cell (p := ⟨b, off + j * 3 + 1, none⟩) zx).trans hw1, (hbC.cell (p := ⟨b, off + j * 3 + 2, none⟩) zx).trans hw2, (hbC.cell (p := ⟨b2, off2 + j * 3, none⟩) zy).trans hu0, (hbC.cell (p := ⟨b2, off2 + j * 3 + 1, none⟩) zy).trans hu1, (hbC.cell (p := ⟨b2, off2 + j * 3 + 2, none⟩) zy).trans hu2⟩) | (exact ⟨hw0, hw1, hw2, hu0, hu1, hu2⟩) | go_keep)
        (first | (go_at_call 17; refine (sameAns_same _ d1 c1 _ _ _ _ _ zs (by exact r1.drew) (by exact r2.drew) hlen).mono ?_; rintro e wC ⟨rfl, hbC0⟩; have hbC : Below wr.heap.size wr wC := (Below.refl wr.heap.size wr).drew.trans hbC0))
      go_wp2
      go_roundw
      case rel => exact ⟨j + 1, by omega, by go_num, Below.andThen hb hbC⟩
      case measure => simp [intOf]; omega
    · go_wp2
      go_ret
      exact ⟨rfl, hb⟩


/-- A guarded operation that is wanted. -/
theorem wpList_unguard {P : Program} {ops : Array Oper} {Q : Exit → Act → World → Prop} {a : Act} {w : World} {rest : List Oper} {o : Oper} (hw : Region.wanted o (yielded ops a.tmps) = true) (h : wpList P ops Q ({ o with guard := none } :: rest) a w) : wpList P ops Q (o :: rest) a w := by
  unfold wpList at h ⊢
  rw [if_pos hw]
  rw [if_pos (by simp [Region.wanted])] at h
  exact h
theorem elems_one {t : Ty} {w : World} {vs : List Value} {ys : List t.D} {fs : List (List Nat)} (h : Elems t w vs ys fs) (h1 : ∀ w vs d f, t.ow w vs d f → ∀ u ∈ vs, u.oneCell' = true) (h0 : 0 < t.n) : ∀ u ∈ vs, u.oneCell' = true := by
  intro u hu
  obtain ⟨h2, h3, _, h4⟩ := h
  obtain ⟨j, hj⟩ := List.mem_iff_getElem?.1 hu
  have hjl := (List.getElem?_eq_some_iff.1 hj).1
  have hi : j / t.n < ys.length := by
    rw [Nat.div_lt_iff_lt_mul h0]
    omega
  obtain ⟨f, _, ho⟩ := h4 _ _ (List.getElem?_eq_getElem hi)
  refine h1 _ _ _ _ ho u (List.mem_iff_getElem?.2 ⟨j % t.n, ?_⟩)
  rw [List.getElem?_take, if_pos (Nat.mod_lt _ h0), List.getElem?_drop]
  rw [Nat.mul_comm, Nat.div_add_mod]
  exact hj
theorem ans_one : ∀ w vs d f, tAns.ow w vs d f → ∀ u ∈ vs, u.oneCell' = true := by
  intro w vs d f h u hu
  obtain ⟨d1, c1, zs⟩ := d
  have hl := tAns.rdLen (tAns.owRd h)
  match vs, hl, h, hu with
  | [v0, v1, v2], _, h, hu =>
    have hr : tAns.Rd w [v0, v1, v2] (d1, c1, zs) := ⟨f, tAns.owRd h⟩
    obtain ⟨rfl, h1⟩ := int_rd hr
    obtain ⟨rfl, h2⟩ := int_rd h1
    obtain ⟨a2, c2, rfl⟩ := row_shape h2
    simp at hu
    rcases hu with rfl | rfl | rfl <;> rfl

/-- 'append' of a row of one's own to another, the operation guarded or not. -/
theorem wpList_appOwn {P : Program} {w : World} {ops : Array Oper} {rest : List Oper} {o : Oper} {a : Act} {Q : Exit → Act → World → Prop} (t : Ty) (hone : ∀ w vs d f, t.ow w vs d f → ∀ u ∈ vs, u.oneCell' = true) (hwt : Region.wanted o (yielded ops a.tmps) = true) (s x : Operand) (T : TypeId)
    (ho : o.op = .call { callee := .builtin .append, args := #[s, x], argTypes := #[T, T] })
    (E : TypeId) (i : TypeInfo) (z : Value) (bytes : Nat) (ht : P.underlying T = some (.slice E)) (hi : P.info? E = some i) (hz : i.zero = some z)
    (hsize : i.size = t.n) (hby : i.bytes = bytes) (hzs : z.cells.size = t.n) (hsz : 0 < t.n)
    (b cap : Nat) (d : List t.D) (fp : List Nat) (hs : a.eval s = .slice (some ⟨b, 0, none⟩) d.length cap) (hown : (rowTy t E).Mine w [.slice (some ⟨b, 0, none⟩) d.length cap] d fp)
    (b2 c : Nat) (ys : List t.D) (fq : List Nat) (hx : a.eval x = .slice (some ⟨b2, 0, none⟩) ys.length c) (hy : (rowTy t E).Mine w [.slice (some ⟨b2, 0, none⟩) ys.length c] ys fq) (hdis : ∀ b ∈ fp, b ∉ fq)
    (h63 : d.length + ys.length ≤ maxLen) (hbytes : (d.length + ys.length) * bytes ≤ 140737488355328)
    (h : ∀ v' w' fp', (rowTy t E).Mine w' [v'] (d ++ ys) fp' → (∀ b ∈ fp', b ∈ fp ∨ b ∈ fq ∨ (b = w.heap.size ∧ b < w'.heap.size)) → Turned fp w w' → wpList P ops Q rest (a.put o.dst v') w') : wpList P ops Q (o :: rest) a w := by
  obtain ⟨cs, fps, h1, rfl, h3, h4, _, h6⟩ := row_seg hy
  have he := h6 0 ys.length (by omega)
  have e1 : (cs.drop (0 * t.n)).take (ys.length * t.n) = cs := by rw [Nat.zero_mul, List.drop_zero, List.take_of_length_le (by omega)]
  have e2 : (ys.drop 0).take ys.length = ys := by rw [List.drop_zero, List.take_length]
  have e3 : (fps.drop 0).take ys.length = fps := by rw [List.drop_zero, ← h1, List.take_length]
  rw [e1, e2, e3] at he
  refine wpList_unguard hwt ?_
  refine wpList_appN t rfl s x T ho E i z bytes ht hi hz hsize hby hzs hsz b cap d fp hs hown ⟨b2, 0, none⟩ c cs ys fps hx he (fun q hq hq' => hdis q hq (List.mem_cons_of_mem _ hq')) (fun j u hu => ?_) (elems_one he hone hsz) h63 hbytes ?_
  · have : (⟨b2, 0, none⟩ : Addr).add j = ⟨b2, j, none⟩ := by unfold Addr.add; split <;> simp_all
    rw [this]
    exact h4 j u hu
  · intro v' w' fp' m1 m2 m3
    refine h v' w' fp' m1 (fun q hq => ?_) m3
    rcases m2 q hq with h | h | h
    · exact .inl h
    · exact .inr (.inl (List.mem_cons_of_mem _ h))
    · exact .inr (.inr h)
/-- A part of a slice that reads. -/
theorem rd_take {t : Ty} {E : TypeId} {w : World} {a : Option Addr} {n cap k : Nat} {d : List t.D} (h : (rowTy t E).Rd w [.slice a n cap] d) (hk : k ≤ n) : (rowTy t E).Rd w [.slice a k cap] (d.take k) := by
  obtain ⟨fp, a', cap', hv, h2, h3, h4⟩ := h
  simp only [List.cons.injEq, Value.slice.injEq, and_true] at hv
  obtain ⟨rfl, rfl, rfl⟩ := hv
  have hl : (d.take k).length = k := by rw [List.length_take]; omega
  rcases h4 with ⟨h5, _, h6⟩ | ⟨b, off, fps, h5, h6, h7, h8, h9⟩
  · exact ⟨[], a, cap, by rw [hl], by omega, h3, .inl ⟨by omega, rfl, h6⟩⟩
  · refine ⟨b :: (fps.take k).flatten, a, cap, by rw [hl], by omega, h3, .inr ⟨b, off, fps.take k, h5, h6, rfl, by rw [List.length_take, hl]; omega, fun i x hx => ?_⟩⟩
    rw [List.getElem?_take] at hx
    by_cases hi : i < k
    · rw [if_pos hi] at hx
      obtain ⟨f, cs, q1, q2, q3⟩ := h9 i x hx
      exact ⟨f, cs, by rw [List.getElem?_take, if_pos hi]; exact q1, q2, q3⟩
    · rw [if_neg hi] at hx
      cases hx
theorem rd_drop {t : Ty} {E : TypeId} {w : World} {b off n cap k : Nat} {d : List t.D} (h : (rowTy t E).Rd w [.slice (some ⟨b, off, none⟩) n cap] d) (hk : k ≤ n) (off' : Nat) (ho : k < n → off' = off + k * t.n) : (rowTy t E).Rd w [.slice (some ⟨b, off', none⟩) (n - k) (cap - k)] (d.drop k) := by
  obtain ⟨fp, a', cap', hv, h2, h3, h4⟩ := h
  simp only [List.cons.injEq, Value.slice.injEq, and_true] at hv
  obtain ⟨rfl, rfl, rfl⟩ := hv
  have hl : (d.drop k).length = d.length - k := List.length_drop
  by_cases hkn : k < d.length
  · rcases h4 with ⟨h5, _, h6⟩ | ⟨b', off2, fps, h5, h6, h7, h8, h9⟩
    · omega
    · simp only [Option.some.injEq, Addr.mk.injEq, and_true] at h5
      obtain ⟨rfl, rfl⟩ := h5
      have := ho hkn
      subst this
      refine ⟨b :: (fps.drop k).flatten, _, cap - k, by rw [hl], by omega, by omega, .inr ⟨b, off + k * t.n, fps.drop k, rfl, h6, rfl, by rw [List.length_drop, hl]; omega, fun i x hx => ?_⟩⟩
      rw [List.getElem?_drop] at hx
      obtain ⟨f, cs, q1, q2, q3⟩ := h9 (k + i) x hx
      refine ⟨f, cs, by rw [List.getElem?_drop]; exact q1, q2, fun j hj => ?_⟩
      rw [show off + k * t.n + (i * t.n + j) = off + ((k + i) * t.n + j) by rw [Nat.add_mul]; omega]
      exact q3 j hj
  · exact ⟨[], _, cap - k, by rw [hl], by omega, by omega, .inl ⟨by omega, rfl, by simp⟩⟩

end Go.Proofs.Ytgjomldcnjjpaaa

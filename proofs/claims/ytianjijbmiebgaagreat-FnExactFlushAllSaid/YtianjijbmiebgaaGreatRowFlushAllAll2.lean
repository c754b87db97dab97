/-
 The walks of the program's writeOp and of the operation that it makes. Conditions: every disk is right; the sector has at most 2097152 words.
-/
import Derived.Test.YtianjijbmiebgaaGreatRowFlushAllAll3
import Derived.Test.YtianjijbmiebgaaGreatRowFlushAllAll5
import Derived.Test.YtianjijbmiebgaaGreatWalkGeo
import Derived.Test.YtianjijbmiebgaaGreatRowFlushAllAll4
import Derived.Lib.SliceRun
import Derived.Test.YtianjijbmiebgaaGreatGrow
import Derived.Recover
import Derived.OrdersHeld
import Derived.RegionTactic

set_option maxRecDepth 100000
set_option maxHeartbeats 8000000
set_option linter.unusedSimpArgs false

namespace Go.Proofs.YtianjijbmiebgaaGreat
open Go.RowKit

theorem wr_mine_inv8 {w : World} {vs : List Value} {x : Int × List Int} {fp : List Nat} (h : tWr.Mine w vs x fp) : ∃ a cap, vs = [.int .i64 x.1, .slice a x.2.length cap] /\ tIntS.Mine w [.slice a x.2.length cap] x.2 fp := by
 have hl : vs.length = 2 := tWr.rdLen (tWr.owRd h.1)
 match vs, hl, h with
 | [u0, u1], _, h =>
  obtain ⟨f1, f2, hf, m1, m2, _⟩ := pair_mine (t := intTy) (u := tIntS) (vs := [u0]) (us := [u1]) rfl h
  obtain ⟨e1, e2⟩ := m1.1
  subst e2
  obtain ⟨a, cap, rfl⟩ := row_shape m2.rd
  refine ⟨a, cap, by simpa using e1, ?_⟩
  rw [hf]
  exact m2
theorem Elems.kept {t : Ty} {w w' : World} {vs : List Value} {ys : List t.D} {fs : List (List Nat)} {fp : List Nat} (h : Elems t w vs ys fs) (ht : Turned fp w w') (hd : ∀ b ∈ fs.flatten, b ∉ fp) : Elems t w' vs ys fs := by
 have hl := h.lt
 refine ⟨h.1, h.2.1, h.2.2.1, fun i y hy => ?_⟩
 obtain ⟨f, hf, ho⟩ := h.2.2.2 i y hy
 have hm : ∀ b ∈ f, b ∈ fs.flatten := fun b hb => List.mem_flatten.2 ⟨f, List.mem_of_getElem? hf, hb⟩
 exact ⟨f, hf, t.owKept ho (fun b hb => ht.block b (hl b (hm b hb)) (hd b (hm b hb))) ht.size⟩
theorem wr_one {w : World} {cs : List Value} {ds : List EntD} {fps : List (List Nat)} (hn : fps.flatten.Nodup) (hl : cs.length = ds.length * 2) (h : ∀ i y, ds[i]? = some y -> ∃ f, fps[i]? = some f /\ tWr.ow w ((cs.drop (i * 2)).take 2) y f) : ∀ u ∈ cs, u.oneCell' = true := by
 intro u hu
 obtain ⟨m, hm⟩ := List.mem_iff_getElem?.1 hu
 have hml := (List.getElem?_eq_some_iff.1 hm).1
 have hil : m / 2 < ds.length := by omega
 obtain ⟨f, hf, ho⟩ := h (m / 2) _ (List.getElem?_eq_getElem hil)
 obtain ⟨a, c, hv, _⟩ := wr_mine_inv8 ⟨ho, (flatten_part hn hf).1⟩
 have h1 : ((cs.drop (m / 2 * 2)).take 2)[m % 2]? = some u := by
  rw [List.getElem?_take, if_pos (by omega), List.getElem?_drop, show m / 2 * 2 + m % 2 = m by omega]
  exact hm
 rw [hv] at h1
 have h2 : u ∈ [Value.int .i64 (ds[m / 2]).1, .slice a (ds[m / 2]).2.length c] := List.mem_of_getElem? h1
 simp at h2
 rcases h2 with h2 | h2 <;> (rw [h2]; rfl)

theorem wpList_appN2 {P : Program} {w : World} {ops : Array Oper} {rest : List Oper} {o : Oper} {a : Act} {Q : Exit -> Act -> World -> Prop} (t : Ty) (hgd : o.guard = none) (s x : Operand) (T : TypeId)
 (ho : o.op = .call { callee := .builtin .append, args := #[s, x], argTypes := #[T, T] })
 (E : TypeId) (i : TypeInfo) (z : Value) (bytes : Nat) (ht : P.underlying T = some (.slice E)) (hi : P.info? E = some i) (hz : i.zero = some z)
 (hsize : i.size = t.n) (hby : i.bytes = bytes) (hzs : z.cells.size = t.n) (hsz : 0 < t.n)
 (b cap : Nat) (d : List t.D) (fp : List Nat) (hs : a.eval s = .slice (some ⟨b, 0, none⟩) d.length cap) (hown : (rowTy t E).Mine w [.slice (some ⟨b, 0, none⟩) d.length cap] d fp)
 (ad : Addr) (c : Nat) (vs : List Value) (ys : List t.D) (fs : List (List Nat)) (hx : a.eval x = .slice (some ad) ys.length c) (hy : Elems t w vs ys fs) (hdis : ∀ b ∈ fp, b ∉ fs.flatten) (hr : ∀ j u, vs[j]? = some u -> w.cell? (ad.add j) = some u) (h1 : ∀ u ∈ vs, u.oneCell' = true)
 (h63 : d.length + ys.length <= maxLen) (hbytes : (d.length + ys.length) * bytes <= 140737488355328)
 (h : ∀ g cap' w' fp', (rowTy t E).Mine w' [.slice (some ⟨g, 0, none⟩) (d.length + ys.length) cap'] (d ++ ys) fp' -> (∀ b ∈ fp', b ∈ fp ∨ b ∈ fs.flatten ∨ (b = w.heap.size /\ b < w'.heap.size)) -> Turned fp w w' -> wpList P ops Q rest (a.put o.dst (.slice (some ⟨g, 0, none⟩) (d.length + ys.length) cap')) w') : wpList P ops Q (o :: rest) a w := by
 obtain ⟨xs, hrow, hback⟩ := row_cellsN (lo := 0) hown (fun _ _ => Nat.zero_le _)
 refine wpList_append_own_at w hgd s x T ho 0 E i z t.n bytes ht hi hz hsize hby hzs hsz _ d.length xs hs hrow ad ys.length c vs hx hy.1 hr h1 h63 hbytes (Nat.zero_le _) ?_
 intro v' w' k1 k2 k3 k4
 obtain ⟨fp', m1, m2, m3⟩ := hback w' v' vs ys fs hy hdis k1 k2 k4
 rcases k1.2 with ⟨hv0, _⟩ | ⟨g, cap', _, hv', _⟩
 . simp at k3
   exact absurd hv0 k3
 . subst hv'
   exact h g cap' w' fp' m1 m2 m3

def dat9 (ds : List EntD) (s : Int) : List Int := (ds.getD (at8 ds s).toNat (0, [])).2
def fl8A (x : ArrN) (ms : List MemD) (ds : List EntD) (s : Int) : ArrN × List MemD := if at8 ds s = -1 then (x, ms) else stripeO x ms ds s (dat9 ds s)
def fl8C (x : ArrN) (ms : List MemD) (ds : List EntD) (s : Int) : Int := if at8 ds s = -1 then 0 else stripeC x ms ds s (dat9 ds s)
def fl8D (x : ArrN) (ms : List MemD) (ds : List EntD) (s : Int) : List EntD := if at8 ds s = -1 then ds else if stripeC x ms ds s (dat9 ds s) = 0 then ds.take (at8 ds s).toNat ++ ds.drop ((at8 ds s).toNat + 1) else ds
def Fl8 (w : World) (B : Nat) (fm fd : List Nat) (y : ArrN) (ns : List MemD) (es : List EntD) (w' : World) : Prop :=
 ∃ fm' fd', ArrAt w' B y ns es fm' fd' /\ Turned (B :: (fm ++ fd)) w w' /\ ∀ b, b ∈ fm' ∨ b ∈ fd' -> b ∈ fm ∨ b ∈ fd ∨ w.heap.size <= b
theorem Fl8.below {w w' : World} {B : Nat} {x : ArrN} {ms : List MemD} {ds : List EntD} {fm fd : List Nat} (h : ArrAt w B x ms ds fm fd) (hb : Below w.heap.size w w') : Fl8 w B fm fd x ms ds w' :=
 ⟨fm, fd, h.below hb, Turned.ofBelow hb _, fun _ h => h.elim .inl (fun h => .inr (.inl h))⟩
theorem ret_fl {a b : Int} {p : Prop} (h : (Ending.returned (Value.int .i64 a) = .returned (.int .i64 b)) /\ p) : (Ending.returned (Value.int .i64 a) = .returned (.int .i64 b)) /\ p := h

theorem lit_mine {t : Ty} {E : TypeId} (w : World) : (rowTy t E).Mine (w.alloc (.cells #[] E)) [.slice (some ⟨w.heap.size, 0, none⟩) 0 0] [] [w.heap.size] :=
 ⟨.inr ⟨w.heap.size, 0, #[], [], rfl, Nat.le_refl _, Nat.zero_le _, Box.new w E #[], by simp, rfl, rfl, by simp⟩, by simp⟩
theorem fl8_turn {w3 w4 w5 w6 : World} {fd fp5 : List Nat} (b4 : Below w3.heap.size w3 w4) (t5 : Turned [w3.heap.size] w4 w5) (t6 : Turned fp5 w5 w6) (n5 : ∀ b ∈ fp5, b ∈ fd ∨ w3.heap.size <= b) : Turned fd w3 w6 := by
 have z4 := b4.size
 have z5 := t5.size
 refine ⟨t6.os.trans (t5.os.trans b4.os), t6.tape.trans (t5.tape.trans b4.tape), t6.output.trans (t5.output.trans b4.output), Nat.le_trans z4 (Nat.le_trans z5 t6.size), fun k hk hn => ?_⟩
 rw [t6.block k (by omega) (fun hm => (n5 k hm).elim hn (fun h => by omega)), t5.block k (by omega) (by simp; omega), b4.block k hk]
theorem fl8_end {w w3 w6 : World} {B : Nat} {y2 : ArrN} {ns : List MemD} {ds es : List EntD} {fm fd fm3 fp6 : List Nat} {bm bd a6 : Option Addr} {cm cd c6 : Nat} (HT : Turned (B :: (fm ++ fd)) w w3) (T : Turned fd w3 w6) (X3 : Box w3 B 29 (arrC y2 (.slice bm ns.length cm) (.slice bd ds.length cd))) (m3 : (tMemS 159 109).Mine w3 [.slice bm ns.length cm] ns fm3) (hr3 : ∀ b ∈ fm3, b ∉ fd) (r13 : B ∉ fm3) (r23 : B ∉ fd) (m6 : (tWrS 86).Mine w6 [.slice a6 es.length c6] es fp6) (n6 : ∀ b ∈ fp6, b ∈ fd ∨ w3.heap.size <= b) (h3 : ∀ b ∈ fm3, b ∈ fm ∨ w.heap.size <= b) :
 Fl8 w B fm fd y2 ns es (w6.setCell ⟨B, 9, none⟩ (.slice a6 es.length c6)) := by
 have zB := X3.lt
 have zw := HT.size
 have hB6 : B ∉ fp6 := fun hm => (n6 B hm).elim r23 (fun h => by omega)
 have X6 := X3.turned T r23
 refine ⟨fm3, fp6, ⟨bm, a6, cm, c6, X6.set 9 _, (m3.kept T hr3).setCell r13 _, m6.setCell hB6 _, fun b hb hb6 => ?_, r13, hB6⟩, ?_, fun b hb => ?_⟩
 . rcases n6 b hb6 with h | h
   . exact hr3 b hb h
   . have := m3.lt b hb
     omega
 . have h1 := (Moved.set (B := B) (j := 9) (fm := fm) (w := w6) (.slice a6 es.length c6)).1
   refine ⟨h1.os.trans (T.os.trans HT.os), h1.tape.trans (T.tape.trans HT.tape), h1.output.trans (T.output.trans HT.output), Nat.le_trans zw (Nat.le_trans T.size h1.size), fun k hk hn => ?_⟩
   simp only [List.mem_cons, List.mem_append, not_or] at hn
   have := T.size
   rw [h1.block k (by omega) (by simp [hn.1, hn.2.1]), T.block k (by omega) hn.2.2, HT.block k hk (by simp [hn.1, hn.2.1, hn.2.2])]
 . rcases hb with hb | hb
   . exact (h3 b hb).elim .inl (fun h => .inr (.inr h))
   . exact (n6 b hb).elim (fun h => .inr (.inl h)) (fun h => .inr (.inr (by omega)))

theorem l8Flush_any (w : World) (B : Nat) (x : ArrN) (ms : List MemD) (ds : List EntD) (fm fd : List Nat) (h : ArrAt w B x ms ds fm fd) (hw : wtArr ms ds <= 2097152) (s : Int) :
 Calls Tryz.prog 86 #[.pointer (some ⟨B, 0, none⟩), .int .i64 s] w fun e w' => e = .returned (.int .i64 (fl8C x ms ds s)) /\ Fl8 w B fm fd (fl8A x ms ds s).1 (fl8A x ms ds s).2 (fl8D x ms ds s) w' := by
 have hwd : wtWrS ds <= 2097152 := by unfold wtArr at hw; omega
 have HA := hidden h
 have hlB := h.lt
 obtain ⟨bm, bd, cm, cd, X, hm, hd, hr, r1, r2⟩ := h
 have hnd : ds.length <= 2097152 := by unfold wtWrS at hwd; omega
 unfold arrC at X
 obtain ⟨k0, k1, k2, k3, k4, k5, k6, k7, k8, k9, k10, k11, k12⟩ := X.cells13
 have HX := hidden X
 have HM := hidden hm
 have HD := hidden hd
 have hdr := hd.rd
 clear X hm hd
 go_enter Tryz.func86, Tryz.ntmps86
 go_wp2_with fail
 refine (l8At_any _ 86 x _ _ _ _ _ _ ds s hdr hnd).mono ?_
 rintro e w1 ⟨rfl, b1⟩
 have X1 := HX.out.below b1 hlB
 have z1 := b1.size
 have B1 := hidden b1
 clear k0 k1 k2 k3 k4 k5 k6 k7 k8 k9 k10 k11 k12 hdr b1
 obtain ⟨k0, k1, k2, k3, k4, k5, k6, k7, k8, k9, k10, k11, k12⟩ := X1.cells13
 clear X1
 rcases at8_cases ds s with hat | ⟨j, d, hat, hdj, hds⟩
 . have HF : Hid (Ending.returned (Value.int .i64 0) = .returned (.int .i64 (fl8C x ms ds s)) /\ Fl8 w B fm fd (fl8A x ms ds s).1 (fl8A x ms ds s).2 (fl8D x ms ds s) w1) := by
    unfold Hid fl8C fl8A fl8D
    rw [if_pos hat, if_pos hat, if_pos hat]
    exact ⟨rfl, Fl8.below HA.out B1.out⟩
   rw [hat]
   clear hat
   go_wp2
   go_ret
   exact ret_fl HF.out
 . have hjl := (List.getElem?_eq_some_iff.1 hdj).1
   have hne : ¬ at8 ds s = -1 := by omega
   have HFC : Hid (fl8C x ms ds s = stripeC x ms ds s d.2 /\ fl8A x ms ds s = stripeO x ms ds s d.2 /\ fl8D x ms ds s = if stripeC x ms ds s d.2 = 0 then ds.take j ++ ds.drop (j + 1) else ds) := by
    have h9 : dat9 ds s = d.2 := by unfold dat9; rw [hat, Int.toNat_natCast, List.getD_eq_getElem?_getD, hdj]; rfl
    unfold Hid fl8C fl8A fl8D
    rw [if_neg hne, if_neg hne, if_neg hne, h9, hat, Int.toNat_natCast]
    exact ⟨rfl, rfl, rfl⟩
   have hil := inner_le' hdj
   obtain ⟨g, rfl⟩ := row_head HD.out (by omega)
   obtain ⟨fps, e1, e2, e3, e4⟩ := ents_open HD.out
   obtain ⟨f, g', av, cv, hf, hg', hgl, hgd, hgf, v0, v1, hmd⟩ := e4 j d hdj
   simp only [Option.some.injEq, Addr.mk.injEq, and_true] at hg'
   subst hg'
   obtain ⟨y, ys⟩ := d
   simp only at v0 v1 HFC hil hds
   have hff : Hid (∀ b ∈ f, b ∈ fd) := fun b hb => e3 b (List.mem_flatten.2 ⟨f, List.mem_of_getElem? hf, hb⟩)
   have HME := hidden hmd
   have u1 := (B1.out.cell (p := ⟨g, j * 2 + 1, none⟩) hgl).trans v1
   have i1 : (0 : Int) <= (j : Int) := by omega
   have i3 : (j : Int) < (ds.length : Int) := by omega
   rw [hat]
   clear hat hne hdj e1 e2 e3 e4 hf hmd v0
   have hS : w1.drew.cell? ⟨B, 0, none⟩ = some (.int .i64 x.id) /\ w1.drew.cell? ⟨B, 1, none⟩ = some (.int .i64 x.n) /\ w1.drew.cell? ⟨B, 2, none⟩ = some (.int .i64 x.s) /\ w1.drew.cell? ⟨B, 3, none⟩ = some (.slice bm ms.length cm) /\ w1.drew.cell? ⟨B, 4, none⟩ = some (.int .i64 x.lost) /\ w1.drew.cell? ⟨B, 5, none⟩ = some (.int .i64 x.built) /\ w1.drew.cell? ⟨B, 6, none⟩ = some (.int .i64 x.seq) /\ w1.drew.cell? ⟨B, 7, none⟩ = some (.int .i64 x.tail) /\ w1.drew.cell? ⟨B, 8, none⟩ = some (.int .i64 x.gen) /\ w1.drew.cell? ⟨B, 9, none⟩ = some (.slice (some ⟨g, 0, none⟩) ds.length cd) /\ w1.drew.cell? ⟨B, 10, none⟩ = some (.int .i64 x.fuse) /\ w1.drew.cell? ⟨B, 11, none⟩ = some (.bool x.down) /\ w1.drew.cell? ⟨B, 12, none⟩ = some (.bool x.broken) /\ w1.drew.cell? ⟨g, j * 2 + 1, none⟩ = some (.slice av ys.length cv) := ⟨k0, k1, k2, k3, k4, k5, k6, k7, k8, k9, k10, k11, k12, u1⟩
   go_wp2_with fail
   refine Upto.start (S := fun w' => w'.cell? ⟨B, 0, none⟩ = some (.int .i64 x.id) /\ w'.cell? ⟨B, 1, none⟩ = some (.int .i64 x.n) /\ w'.cell? ⟨B, 2, none⟩ = some (.int .i64 x.s) /\ w'.cell? ⟨B, 3, none⟩ = some (.slice bm ms.length cm) /\ w'.cell? ⟨B, 4, none⟩ = some (.int .i64 x.lost) /\ w'.cell? ⟨B, 5, none⟩ = some (.int .i64 x.built) /\ w'.cell? ⟨B, 6, none⟩ = some (.int .i64 x.seq) /\ w'.cell? ⟨B, 7, none⟩ = some (.int .i64 x.tail) /\ w'.cell? ⟨B, 8, none⟩ = some (.int .i64 x.gen) /\ w'.cell? ⟨B, 9, none⟩ = some (.slice (some ⟨g, 0, none⟩) ds.length cd) /\ w'.cell? ⟨B, 10, none⟩ = some (.int .i64 x.fuse) /\ w'.cell? ⟨B, 11, none⟩ = some (.bool x.down) /\ w'.cell? ⟨B, 12, none⟩ = some (.bool x.broken) /\ w'.cell? ⟨g, j * 2 + 1, none⟩ = some (.slice av ys.length cv)) (k := 13) (by kernel_rfl) ?_
   refine Upto.t 0 hS ?_
   refine Upto.t 1 hS ?_
   refine Upto.t 2 hS ?_
   refine Upto.t 3 hS ?_
   refine Upto.t 4 hS ?_
   refine Upto.t 5 hS ?_
   refine Upto.t 6 hS ?_
   refine Upto.t 7 hS ?_
   refine Upto.t 8 hS ?_
   refine Upto.t 9 hS ?_
   refine Upto.t 10 hS ?_
   refine Upto.t 11 hS ?_
   refine Upto.one (i := 12) (by kernel_rfl) rfl (fun K hK => ?_)
   go_simp
   refine (l7Code_any _ 159 109 86 x _ _ _ _ _ _ ms ds ((HM.out.below B1.out).adrew.rd) ((HD.out.below B1.out).adrew.rd) hw s av cv ys (wr_rd ((HME.out.below B1.out).adrew.rd)).2 (by omega)).mono ?_
   rintro e w2 ⟨rfl, b2'⟩
   have B2 : Hid (Below w.heap.size w w2) := Below.andThen B1.out.drew b2'
   have z2 := B2.out.size
   have X2 := HX.out.below B2.out hlB
   have hS2 : w2.cell? ⟨B, 0, none⟩ = some (.int .i64 x.id) /\ w2.cell? ⟨B, 1, none⟩ = some (.int .i64 x.n) /\ w2.cell? ⟨B, 2, none⟩ = some (.int .i64 x.s) /\ w2.cell? ⟨B, 3, none⟩ = some (.slice bm ms.length cm) /\ w2.cell? ⟨B, 4, none⟩ = some (.int .i64 x.lost) /\ w2.cell? ⟨B, 5, none⟩ = some (.int .i64 x.built) /\ w2.cell? ⟨B, 6, none⟩ = some (.int .i64 x.seq) /\ w2.cell? ⟨B, 7, none⟩ = some (.int .i64 x.tail) /\ w2.cell? ⟨B, 8, none⟩ = some (.int .i64 x.gen) /\ w2.cell? ⟨B, 9, none⟩ = some (.slice (some ⟨g, 0, none⟩) ds.length cd) /\ w2.cell? ⟨B, 10, none⟩ = some (.int .i64 x.fuse) /\ w2.cell? ⟨B, 11, none⟩ = some (.bool x.down) /\ w2.cell? ⟨B, 12, none⟩ = some (.bool x.broken) /\ w2.cell? ⟨g, j * 2 + 1, none⟩ = some (.slice av ys.length cv) := by
    obtain ⟨q0, q1, q2, q3, q4, q5, q6, q7, q8, q9, q10, q11, q12⟩ := X2.cells13
    exact ⟨q0, q1, q2, q3, q4, q5, q6, q7, q8, q9, q10, q11, q12, (B2.out.cell (p := ⟨g, j * 2 + 1, none⟩) hgl).trans v1⟩
   clear b2' hS k0 k1 k2 k3 k4 k5 k6 k7 k8 k9 k10 k11 k12 u1
   go_wp2_with fail
   refine hK.out _ _ (fun _ => hS2) ?_
   clear hK K
   refine Upto.one (i := 13) (by kernel_rfl) rfl (fun K hK => ?_)
   go_simp
   refine hK.out _ _ (fun h => absurd rfl h) ?_
   clear hK K
   refine Upto.done (by kernel_rfl) ?_ _
   obtain ⟨k0, k1, k2, k3, k4, k5, k6, k7, k8, k9, k10, k11, k12, u1⟩ := hS2
   clear X2
   by_cases hc : codeN x ms ds s ys = 0
   . obtain ⟨ha, hz, haw, hdn, hin, hbr, hsq, hgn⟩ := code_good hc
     have HV : Hid (stripeO x ms ds s ys = writeA (x, ms) s ys) := by unfold Hid stripeO; rw [if_pos hc]
     have HVC : Hid (stripeC x ms ds s ys = dnC (writeA (x, ms) s ys).1.down) := by unfold Hid stripeC; rw [if_pos hc]; rfl
     obtain ⟨_, _, hwe, hmi⟩ := wr_mine_inv (HME.out.below B2.out)
     simp only [List.cons.injEq, Value.slice.injEq, and_true, true_and] at hwe
     obtain ⟨rfl, rfl⟩ := hwe
     have HLW := hidden (l7Write_any w2 B x ms ds fm fd (HA.out.below B2.out) ha hdn hsq s hin av cv ys f hmi (fun b hb => ⟨fun e => r2 (e ▸ hff.out b hb), fun hm => hr b hm (hff.out b hb)⟩) hz)
     have e0 : (codeN x ms ds s ys != 0) = false := by simp [hc]
     clear ha hz haw hdn hin hbr hsq hgn hc hmi
     generalize codeN x ms ds s ys = cd0 at e0 ⊢
     go_wp2_with fail
     refine HLW.out.mono ?_
     rintro e w3 ⟨rfl, fm3, A3, M3⟩
     have HT : Hid (Turned (B :: (fm ++ fd)) w w3) := (Turned.ofBelow B2.out _).trans ⟨M3.1.os, M3.1.tape, M3.1.output, M3.1.size, fun k hk hn => M3.1.block k hk (fun hm => hn (by
      rcases List.mem_cons.1 hm with h | h
      . rw [h]; exact List.mem_cons_self
      . exact List.mem_cons_of_mem _ (List.mem_append_left _ h)))⟩
     have HN3 : Hid (∀ b ∈ fm3, b ∈ fm ∨ w.heap.size <= b) := fun b hb => (M3.2 b hb).elim .inl (fun h => .inr (by omega))
     have z3 := M3.1.size
     clear k0 k1 k2 k3 k4 k5 k6 k7 k8 k9 k10 k11 k12 u1 M3 HLW e0
     generalize writeA (x, ms) s ys = st at A3 HV HVC ⊢
     obtain ⟨y2, ns⟩ := st
     dsimp only at A3 HVC ⊢
     have HA3 := hidden A3
     cases hdn : y2.down
     . have HC : Hid (fl8C x ms ds s = 0 /\ fl8A x ms ds s = (y2, ns) /\ fl8D x ms ds s = ds.take j ++ ds.drop (j + 1)) := by
        unfold Hid
        rw [HFC.out.1, HFC.out.2.1, HFC.out.2.2, HV.out, HVC.out, hdn]
        exact ⟨rfl, rfl, rfl⟩
       rw [show dnC false = 0 from rfl]
       clear hdn HV HVC HFC
       obtain ⟨bm3, bd3, cm3, cd3, X3, m3, d3, hr3, r13, r23⟩ := A3
       obtain ⟨g3, rfl⟩ := row_head d3 (by omega)
       have fz := X3.frozen
       have k9 : w3.cell? ⟨B, 9, none⟩ = some (.slice (some ⟨g3, 0, none⟩) ds.length cd3) := X3.cell 9
       have zB3 := X3.lt
       obtain ⟨cs, fq, s1, s2, s3, s4, s5, s6⟩ := row_seg d3
       have hcd : ds.length <= cd3 := by
        rcases d3.1 with ⟨h1, _⟩ | ⟨_, _, _, _, h1, h2, _⟩
        . simp at h1
        . simp only [List.cons.injEq, Value.slice.injEq, and_true, true_and] at h1; omega
       have XH := hidden X3
       have MH := hidden m3
       have DH := hidden d3
       have S5 := hidden s5
       have S6 := hidden s6
       have S4 := hidden s4
       clear X3 m3 d3 s4 s5 s6
       have c1 : (j : Int) <= (cd3 : Int) := by omega
       have c2 : (j : Int) + 1 <= (ds.length : Int) := by omega
       have c3 : (0 : Int) <= (j : Int) + 1 := by omega
       have c4 : (ds.length : Int) <= (cd3 : Int) := by omega
       have hS : w3.drew.cell? ⟨B, 9, none⟩ = some (.slice (some ⟨g3, 0, none⟩) ds.length cd3) := k9
       have cw : IntKind.i64.wrap ((j : Int) + 1) = (j : Int) + 1 := IntWalk.i64_in _ (by omega)
       have ct : ((j : Int) + 1).toNat = j + 1 := by omega
       obtain ⟨ad, had, hads⟩ : ∃ ad : Addr, (if cd3 = j + 1 then some (⟨g3, 0, none⟩ : Addr) else some ⟨g3, (j + 1) * 2, none⟩) = some ad /\ (ad = ⟨g3, (j + 1) * 2, none⟩ ∨ ds.length = j + 1) := by
        split
        . exact ⟨_, rfl, .inr (by omega)⟩
        . exact ⟨_, rfl, .inl rfl⟩
       go_wp2_with fail
       refine Upto.start (S := fun w' => w'.cell? ⟨B, 9, none⟩ = some (.slice (some ⟨g3, 0, none⟩) ds.length cd3)) (k := 19) (by kernel_rfl) ?_
       refine Upto.t 0 hS ?_
       refine Upto.t 2 hS ?_
       refine Upto.t 3 hS ?_
       refine Upto.t 4 hS ?_
       refine Upto.t 5 hS ?_
       refine Upto.t 6 hS ?_
       refine Upto.t 7 hS ?_
       refine Upto.t 9 hS ?_
       refine Upto.t 10 hS ?_
       refine Upto.t 11 hS ?_
       refine Upto.t 12 hS ?_
       refine Upto.t 13 hS ?_
       refine Upto.t 14 hS ?_
       refine Upto.t 15 hS ?_
       have B4 : Hid (Below w3.heap.size w3 (w3.alloc (.cells #[] 86)).drew) := (new_below w3 (.cells #[] 86)).drew
       have M4 := hidden (lit_mine (t := tWr) (E := 86) w3).adrew
       have hS4 : (w3.alloc (.cells #[] 86)).drew.cell? ⟨B, 9, none⟩ = some (.slice (some ⟨g3, 0, none⟩) ds.length cd3) := (B4.out.cell (p := ⟨B, 9, none⟩) zB3).trans k9
       refine Upto.one (i := 1) (by kernel_rfl) rfl (fun K hK => ?_)
       go_simp
       refine hK.out _ _ (fun _ => hS4) ?_
       clear hK K hS
       generalize (w3.alloc (.cells #[] 86)).drew = w4 at B4 M4 hS4 ⊢
       have M4 : Hid ((tWrS 86).Mine w4 [.slice (some ⟨w3.heap.size, 0, none⟩) 0 0] [] [w3.heap.size]) := M4
       have hq : g3 < w3.heap.size /\ (∀ b ∈ fq.flatten, b < w3.heap.size) /\ g3 ∉ fq.flatten /\ fq.flatten.Nodup /\ (∀ b ∈ fq.flatten, b ∈ fd) := by
        have hl := DH.out.lt; have hn := DH.out.2; rw [s2] at hl hn ⊢; rw [List.nodup_cons] at hn
        exact ⟨hl _ List.mem_cons_self, fun b hb => hl b (List.mem_cons_of_mem _ hb), hn.1, hn.2, fun b hb => List.mem_cons_of_mem _ hb⟩
       obtain ⟨q1, q2, q3, q4, q5⟩ := hq
       clear s2
       have ON := hidden (wr_one q4 s3 S5.out)
       have qt : ∀ b ∈ (fq.take j).flatten, b ∈ fq.flatten := fun b hb => (runs_sub (List.take_sublist _ _)).subset hb
       have qd : ∀ b ∈ (fq.drop (j + 1)).flatten, b ∈ fq.flatten := fun b hb => (runs_sub (List.drop_sublist _ _)).subset hb
       have E1 : Hid (Elems tWr w4 (cs.take (j * 2)) (ds.take j) (fq.take j)) := by
        have h := S6.out 0 j (by omega)
        rw [Nat.zero_mul, List.drop_zero, List.drop_zero, List.drop_zero] at h
        exact h.kept (Turned.ofBelow B4.out []) (by simp)
       have E2 : Hid (Elems tWr w3 (cs.drop ((j + 1) * 2)) (ds.drop (j + 1)) (fq.drop (j + 1))) := by
        have h := S6.out (j + 1) (ds.length - (j + 1)) (by omega)
        have hA : (ds.drop (j + 1)).take (ds.length - (j + 1)) = ds.drop (j + 1) := List.take_of_length_le (by simp)
        have hB : (fq.drop (j + 1)).take (ds.length - (j + 1)) = fq.drop (j + 1) := List.take_of_length_le (by rw [List.length_drop, s1]; exact Nat.le_refl _)
        have h2 : (cs.drop ((j + 1) * tWr.n)).take ((ds.length - (j + 1)) * tWr.n) = cs.drop ((j + 1) * 2) := List.take_of_length_le (by rw [List.length_drop, s3, Nat.sub_mul]; exact Nat.le_refl _)
        rw [hA, hB, h2] at h
        exact h
       have R1 : Hid (∀ k u, (cs.take (j * 2))[k]? = some u -> w4.cell? ((⟨g3, 0, none⟩ : Addr).add k) = some u) := fun k u hu => by
        rw [List.getElem?_take] at hu
        split at hu
        . have h := S4.out k u hu
          have h2 := (B4.out.cell (p := ⟨g3, k, none⟩) q1).trans h
          by_cases hk0 : k = 0
          . subst hk0; simpa [Addr.add] using h2
          . simpa [Addr.add, hk0] using h2
        . simp at hu
       have D1 : Hid (∀ b ∈ [w3.heap.size], b ∉ (fq.take j).flatten) := fun b hb hm => by
        have h1 := q2 b (qt b hm)
        simp at hb
        omega
       have lt1 : (ds.take j).length = j := by rw [List.length_take]; omega
       obtain ⟨i4, hi4, hz0, hz1, hz2⟩ := info_parts Tryz.infoEnt
       refine Upto.one (i := 8) (by kernel_rfl) rfl (fun K hK => ?_)
       refine step_appN tWr rfl _ _ 27 rfl 86 i4 (.agg #[.int .i64 0, .slice none 0 0]) 32 Tryz.underlying27 hi4 hz0 hz1 hz2 rfl Nat.zero_lt_two w3.heap.size 0 [] [w3.heap.size] rfl M4.out ⟨g3, 0, none⟩ cd3 (cs.take (j * 2)) (ds.take j) (fq.take j) (by rw [lt1]; rfl) E1.out D1.out R1.out (fun u hu => ON.out u (List.mem_of_mem_take hu)) (by rw [lt1]; unfold maxLen; simp; omega) (by rw [lt1]; simp; omega) ?_
       intro g5 c5 w5 fp5 m5 n5 t5
       simp only [List.length_nil, Nat.zero_add, List.nil_append] at m5 ⊢
       have z4 := B4.out.size
       have z5 := t5.size
       have N5 : Hid (∀ b ∈ fp5, b ∈ (fq.take j).flatten ∨ w3.heap.size <= b) := fun b hb => by
        rcases n5 b hb with h | h | h
        . simp at h; exact .inr (by omega)
        . exact .inl h
        . exact .inr (by omega)
       have T5 : Hid (Turned [w3.heap.size] w4 w5) := t5
       have M5 := hidden m5
       have F5 : Hid (∀ k, k < w3.heap.size -> w5.heap[k]? = w3.heap[k]?) := fun k hk => by rw [T5.out.block k (by omega) (by simp; omega), B4.out.block k hk]
       have X5 := XH.out.kept (F5.out B zB3)
       have hS5 : w5.cell? ⟨B, 9, none⟩ = some (.slice (some ⟨g3, 0, none⟩) ds.length cd3) := X5.cell 9
       refine hK.out _ _ (fun _ => hS5) ?_
       clear hK K hS4 m5 n5 t5 X5
       simp only [Act.put, List.setIfInBounds_toArray, List.set_cons_zero, List.set_cons_succ]
       have E5 : Hid (Elems tWr w5 (cs.drop ((j + 1) * 2)) (ds.drop (j + 1)) (fq.drop (j + 1))) := E2.out.kept (fp := []) (Turned.mono (fp := []) ⟨T5.out.os.trans B4.out.os, T5.out.tape.trans B4.out.tape, T5.out.output.trans B4.out.output, Nat.le_trans z4 z5, fun k hk _ => F5.out k hk⟩ (by simp)) (by simp)
       have R5 : Hid (∀ k u, (cs.drop ((j + 1) * 2))[k]? = some u -> w5.cell? (ad.add k) = some u) := fun k u hu => by
        rcases hads with rfl | h0
        . rw [List.getElem?_drop] at hu
          have h := S4.out _ u hu
          have h2 : w5.cell? ⟨g3, (j + 1) * 2 + k, none⟩ = some u := by rw [← h]; simp only [World.cell?, F5.out g3 q1]
          by_cases hk0 : k = 0
          . subst hk0; simpa [Addr.add] using h2
          . simpa [Addr.add, hk0] using h2
        . rw [List.getElem?_eq_none (by rw [List.length_drop, s3, h0]; simp)] at hu
          simp at hu
       have D5 : Hid (∀ b ∈ fp5, b ∉ (fq.drop (j + 1)).flatten) := fun b hb hm => by
        rcases N5.out b hb with h | h
        . exact runs_apart q4 b h hm
        . have := q2 b (qd b hm); omega
       have ld : (ds.drop (j + 1)).length = ds.length - (j + 1) := List.length_drop
       refine Upto.one (i := 16) (by kernel_rfl) rfl (fun K hK => ?_)
       refine step_appN tWr rfl _ _ 27 rfl 86 i4 (.agg #[.int .i64 0, .slice none 0 0]) 32 Tryz.underlying27 hi4 hz0 hz1 hz2 rfl Nat.zero_lt_two g5 c5 (ds.take j) fp5 rfl M5.out ad (cd3 - (j + 1)) (cs.drop ((j + 1) * 2)) (ds.drop (j + 1)) (fq.drop (j + 1)) (by rw [ld]; rfl) E5.out D5.out R5.out (fun u hu => ON.out u (List.mem_of_mem_drop hu)) (by rw [lt1, ld]; unfold maxLen; omega) (by rw [lt1, ld]; omega) ?_
       intro g6 c6 w6 fp6 m6 n6 t6
       rw [← List.length_append] at m6 ⊢
       have T6 := hidden (fl8_turn (fd := fd) B4.out T5.out t6 (fun b hb => (N5.out b hb).elim (fun h => .inl (q5 b (qt b h))) .inr))
       have N6 : Hid (∀ b ∈ fp6, b ∈ fd ∨ w3.heap.size <= b) := fun b hb => by
        rcases n6 b hb with h | h | h
        . exact (N5.out b h).elim (fun h => .inl (q5 b (qt b h))) .inr
        . exact .inl (q5 b (qd b h))
        . exact .inr (by omega)
       have X6 := XH.out.turned T6.out r23
       have fz6 := X6.frozen
       have hS6 : w6.cell? ⟨B, 9, none⟩ = some (.slice (some ⟨g3, 0, none⟩) ds.length cd3) := X6.cell 9
       have FIN : Hid (Ending.returned (Value.int .i64 0) = .returned (.int .i64 (fl8C x ms ds s)) /\ Fl8 w B fm fd (fl8A x ms ds s).1 (fl8A x ms ds s).2 (fl8D x ms ds s) (w6.setCell ⟨B, 9, none⟩ (.slice (some ⟨g6, 0, none⟩) (ds.take j ++ ds.drop (j + 1)).length c6))) := by
        unfold Hid
        rw [HC.out.1, HC.out.2.1, HC.out.2.2]
        exact ⟨rfl, fl8_end HT.out T6.out XH.out MH.out hr3 r13 r23 m6 N6.out HN3.out⟩
       refine hK.out _ _ (fun _ => hS6) ?_
       clear hK K hS5 m6 n6 t6 X6
       generalize (ds.take j ++ ds.drop (j + 1)).length = l6 at FIN ⊢
       simp only [Act.put, List.setIfInBounds_toArray, List.set_cons_zero, List.set_cons_succ]
       refine Upto.one (i := 17) (by kernel_rfl) rfl (fun K hK => ?_)
       go_simp
       refine hK.out _ _ (fun _ => hS6) ?_
       clear hK K
       refine Upto.one (i := 18) (by kernel_rfl) rfl (fun K hK => ?_)
       go_simp
       refine hK.out _ _ (fun _ => hS6) ?_
       clear hK K
       refine Upto.one (i := 19) (by kernel_rfl) rfl (fun K hK => ?_)
       go_simp
       refine hK.out _ _ (fun h => absurd rfl h) ?_
       clear hK K
       refine Upto.done (by kernel_rfl) ?_ _
       go_wp2
       go_ret
       exact ret_fl FIN.out
     . have HF : Hid (Ending.returned (Value.int .i64 6) = .returned (.int .i64 (fl8C x ms ds s)) /\ Fl8 w B fm fd (fl8A x ms ds s).1 (fl8A x ms ds s).2 (fl8D x ms ds s) w3) := by
        unfold Hid
        rw [HFC.out.1, HFC.out.2.1, HFC.out.2.2, HV.out, HVC.out, hdn, if_neg (by decide)]
        exact ⟨rfl, fm3, fd, HA3.out, HT.out, fun b hb => hb.elim (fun h => (HN3.out b h).elim .inl (fun h => .inr (.inr h))) (fun h => .inr (.inl h))⟩
       rw [show dnC true = 6 from rfl]
       clear hdn A3
       go_wp2
       go_ret
       exact ret_fl HF.out
   . have e0 : (codeN x ms ds s ys != 0) = true := by simpa using hc
     have HF : Hid (Ending.returned (Value.int .i64 (codeN x ms ds s ys)) = .returned (.int .i64 (fl8C x ms ds s)) /\ Fl8 w B fm fd (fl8A x ms ds s).1 (fl8A x ms ds s).2 (fl8D x ms ds s) w2) := by
      have h1 : stripeC x ms ds s ys = codeN x ms ds s ys := by unfold stripeC; rw [if_neg hc]
      have h2 : stripeO x ms ds s ys = (x, ms) := by unfold stripeO; rw [if_neg hc]
      unfold Hid
      rw [HFC.out.1, HFC.out.2.1, HFC.out.2.2, h1, h2, if_neg hc]
      exact ⟨rfl, Fl8.below HA.out B2.out⟩
     clear hc
     go_wp2
     go_ret
     exact ret_fl HF.out

def flC (x : ArrN) (ms : List MemD) (ds : List EntD) (t : Int) : Int := if scode8 x ms ds t = 0 then fl8C x ms ds t else scode8 x ms ds t
def flA (x : ArrN) (ms : List MemD) (ds : List EntD) (t : Int) : ArrN × List MemD := if scode8 x ms ds t = 0 then fl8A x ms ds t else (x, ms)
def flD (x : ArrN) (ms : List MemD) (ds : List EntD) (t : Int) : List EntD := if scode8 x ms ds t = 0 then fl8D x ms ds t else ds
theorem fl_good {x : ArrN} {ms : List MemD} {ds : List EntD} {t : Int} (h : scode8 x ms ds t = 0) : flC x ms ds t = fl8C x ms ds t /\ flA x ms ds t = fl8A x ms ds t /\ flD x ms ds t = fl8D x ms ds t := by
 unfold flC flA flD
 rw [if_pos h, if_pos h, if_pos h]
 exact ⟨rfl, rfl, rfl⟩
theorem fl_bad {x : ArrN} {ms : List MemD} {ds : List EntD} {t : Int} (h : ¬ scode8 x ms ds t = 0) : flC x ms ds t = scode8 x ms ds t /\ flA x ms ds t = (x, ms) /\ flD x ms ds t = ds := by
 unfold flC flA flD
 rw [if_neg h, if_neg h, if_neg h]
 exact ⟨rfl, rfl, rfl⟩
theorem fl_none {x : ArrN} {ms : List MemD} {ds : List EntD} {t : Int} (h : at8 ds t = -1) : fl8C x ms ds t = 0 /\ fl8A x ms ds t = (x, ms) /\ fl8D x ms ds t = ds := by
 unfold fl8C fl8A fl8D
 rw [if_pos h, if_pos h, if_pos h]
 exact ⟨rfl, rfl, rfl⟩
theorem fl_some {x : ArrN} {ms : List MemD} {ds : List EntD} {t : Int} {k : Nat} {ys : List Int} (h : at8 ds t = (k : Int)) (hk : ds[k]? = some (t, ys)) : fl8C x ms ds t = stripeC x ms ds t ys /\ fl8A x ms ds t = stripeO x ms ds t ys /\ fl8D x ms ds t = if stripeC x ms ds t ys = 0 then ds.take k ++ ds.drop (k + 1) else ds := by
 have h9 : dat9 ds t = ys := by unfold dat9; rw [h, Int.toNat_natCast, List.getD_eq_getElem?_getD, hk]; rfl
 unfold fl8C fl8A fl8D
 rw [if_neg (by omega), if_neg (by omega), if_neg (by omega), h9, h, Int.toNat_natCast]
 exact ⟨rfl, rfl, rfl⟩
theorem ents_mine {w : World} {E : TypeId} {bd : Option Addr} {n cap : Nat} {ds : List EntD} {fd : List Nat} (h : (tWrS E).Mine w [.slice bd n cap] ds fd) : EntsSo w bd ds fun _ ys a' c' => ∃ f, tIntS.Mine w [.slice a' ys.length c'] ys f /\ ∀ b ∈ f, b ∈ fd := fun i d hd => by
 obtain ⟨fps, _, _, e3, e4⟩ := ents_open h
 obtain ⟨f, g, a, c, hf, hg, hgl, _, _, v0, v1, hm⟩ := e4 i d hd
 obtain ⟨a2, c2, hv, hmi⟩ := wr_mine_inv8 hm
 simp only [List.cons.injEq, Value.slice.injEq, and_true, true_and] at hv
 obtain ⟨rfl, rfl⟩ := hv
 exact ⟨g, 0, a, c, hg, hgl, by rw [Nat.zero_add]; exact v0, by rw [Nat.zero_add]; exact v1, f, hmi, fun b hb => e3 b (List.mem_flatten.2 ⟨f, List.mem_of_getElem? hf, hb⟩)⟩

def allR (q : ArrN × List MemD) : List EntD -> (ArrN × List MemD) × List EntD × Int
 | [] => (q, [], 0)
 | e :: es => if fl8C q.1 q.2 (e :: es) e.1 = 0 then allR (fl8A q.1 q.2 (e :: es) e.1) es else (fl8A q.1 q.2 (e :: es) e.1, e :: es, fl8C q.1 q.2 (e :: es) e.1)
def allA (x : ArrN) (ms : List MemD) (ds : List EntD) : ArrN × List MemD := if ask8 x ms ds = 0 then (allR (x, ms) ds).1 else (x, ms)
def allD (x : ArrN) (ms : List MemD) (ds : List EntD) : List EntD := if ask8 x ms ds = 0 then (allR (x, ms) ds).2.1 else ds
def allC (x : ArrN) (ms : List MemD) (ds : List EntD) : Int := if ask8 x ms ds = 0 then (allR (x, ms) ds).2.2 else ask8 x ms ds
theorem all_good {x : ArrN} {ms : List MemD} {ds : List EntD} (h : ask8 x ms ds = 0) : allA x ms ds = (allR (x, ms) ds).1 /\ allD x ms ds = (allR (x, ms) ds).2.1 /\ allC x ms ds = (allR (x, ms) ds).2.2 := by
 unfold allA allD allC
 rw [if_pos h, if_pos h, if_pos h]
 exact ⟨rfl, rfl, rfl⟩
theorem all_bad {x : ArrN} {ms : List MemD} {ds : List EntD} (h : ¬ ask8 x ms ds = 0) : allA x ms ds = (x, ms) /\ allD x ms ds = ds /\ allC x ms ds = ask8 x ms ds := by
 unfold allA allD allC
 rw [if_neg h, if_neg h, if_neg h]
 exact ⟨rfl, rfl, rfl⟩
theorem at8_head (e : EntD) (es : List EntD) : at8 (e :: es) e.1 = ((0 : Nat) : Int) := at8_hit (j := 0) (e := e) rfl rfl (fun i _ hi => by omega)
theorem fl_head {q : ArrN × List MemD} {e : EntD} {es : List EntD} : fl8D q.1 q.2 (e :: es) e.1 = if fl8C q.1 q.2 (e :: es) e.1 = 0 then es else e :: es := by
 obtain ⟨h1, _, h3⟩ := fl_some (x := q.1) (ms := q.2) (at8_head e es) (show (e :: es)[0]? = some (e.1, e.2) from rfl)
 rw [h3, h1]
 rfl
theorem allR_step {q : ArrN × List MemD} {e : EntD} {es : List EntD} (h : fl8C q.1 q.2 (e :: es) e.1 = 0) : allR q (e :: es) = allR (fl8A q.1 q.2 (e :: es) e.1) es := by
 conv => lhs; unfold allR
 rw [if_pos h]
theorem allR_stop {q : ArrN × List MemD} {e : EntD} {es : List EntD} (h : ¬ fl8C q.1 q.2 (e :: es) e.1 = 0) : allR q (e :: es) = (fl8A q.1 q.2 (e :: es) e.1, e :: es, fl8C q.1 q.2 (e :: es) e.1) := by
 conv => lhs; unfold allR
 rw [if_neg h]
theorem fl_same {q : ArrN × List MemD} {e : EntD} {es : List EntD} : flC q.1 q.2 (e :: es) e.1 = fl8C q.1 q.2 (e :: es) e.1 /\ flA q.1 q.2 (e :: es) e.1 = fl8A q.1 q.2 (e :: es) e.1 /\ flD q.1 q.2 (e :: es) e.1 = fl8D q.1 q.2 (e :: es) e.1 := by
 by_cases hs : scode8 q.1 q.2 (e :: es) e.1 = 0
 . exact fl_good hs
 . obtain ⟨b1, b2, b3⟩ := fl_bad hs
   obtain ⟨h1, h2, h3⟩ := fl_some (x := q.1) (ms := q.2) (at8_head e es) (show (e :: es)[0]? = some (e.1, e.2) from rfl)
   have hc : codeN q.1 q.2 (e :: es) e.1 e.2 = scode8 q.1 q.2 (e :: es) e.1 := by
    unfold scode8 at hs ⊢
    by_cases ha : arrB q.1 q.2 (e :: es) = true
    . have hg := arr_geo ha
      have he : entAt q.1 (e :: es) 0 e = true := by
       have ha2 := ha
       unfold arrB entsB at ha2
       simp only [Bool.and_eq_true] at ha2
       exact allIx_iff.1 ha2.2.2.2.1 0 e rfl
      unfold entAt at he
      simp only [Bool.and_eq_true] at he
      have hsb : stripeB q.1.n q.1.s e.1 = true := by unfold stripeB; rw [hg, he.1]; rfl
      by_cases hk : ask8 q.1 q.2 (e :: es) = 0
      . rw [if_pos hk, if_pos hsb] at hs
        exact absurd rfl hs
      . rw [if_neg hk]
        unfold ask8 at hk ⊢
        rw [if_pos ha] at hk ⊢
        by_cases hd : q.1.down = true
        . unfold codeN
          rw [if_pos hd, ha, he.2.1, he.2.2.1, if_neg (by simp), if_pos hd]
        . rw [if_neg hd] at hk
          exact absurd rfl hk
    . have hk : ask8 q.1 q.2 (e :: es) = 1 := by unfold ask8; rw [if_neg ha]
      rw [hk, if_neg (by omega)]
      unfold codeN
      rw [if_pos (by simp only [Bool.not_eq_true] at ha; rw [ha]; rfl)]
   have hcn : ¬ codeN q.1 q.2 (e :: es) e.1 e.2 = 0 := by rw [hc]; exact hs
   have hC : stripeC q.1 q.2 (e :: es) e.1 e.2 = scode8 q.1 q.2 (e :: es) e.1 := by unfold stripeC; rw [if_neg hcn, hc]
   have hO : stripeO q.1 q.2 (e :: es) e.1 e.2 = (q.1, q.2) := by unfold stripeO; rw [if_neg hcn]
   rw [b1, b2, b3, h1, h2, h3, hC, hO, if_neg hs]
   exact ⟨rfl, rfl, rfl⟩
theorem fl8A_wt (q : ArrN × List MemD) (ds : List EntD) (t : Int) : wtMemS (fl8A q.1 q.2 ds t).2 <= max (wtMemS q.2) 10005 := by
 unfold fl8A
 split
 . exact Nat.le_max_left _ _
 . unfold stripeO
   split
   . rename_i hc
     obtain ⟨ha, _⟩ := code_good hc
     obtain ⟨fc, mk, _, _⟩ := arr_facts ha
     obtain ⟨k1, k2⟩ := writeA_keeps (q := (q.1, q.2)) mk fc t (dat9 ds t)
     have h1 := arr_len ha
     have h2 := ms_light k1 (by rw [k2]; show q.2.length <= 5; omega)
     exact Nat.le_trans h2 (Nat.le_max_right _ _)
   . exact Nat.le_max_left _ _
theorem allR_wt : ∀ (ds : List EntD) (q : ArrN × List MemD), wtMemS (allR q ds).1.2 <= max (wtMemS q.2) 10005 /\ wtWrS (allR q ds).2.1 <= wtWrS ds
 | [], q => ⟨Nat.le_max_left _ _, Nat.le_refl _⟩
 | e :: es, q => by
  by_cases h : fl8C q.1 q.2 (e :: es) e.1 = 0
  . rw [allR_step h]
    have h1 := allR_wt es (fl8A q.1 q.2 (e :: es) e.1)
    have h2 := fl8A_wt q (e :: es) e.1
    have h3 := wtWrS_drop1 (e :: es) 0
    have h4 : wtWrS es <= wtWrS (e :: es) := h3
    omega
  . rw [allR_stop h]
    exact ⟨fl8A_wt q (e :: es) e.1, Nat.le_refl _⟩
theorem all_wt {x : ArrN} {ms : List MemD} {ds : List EntD} (hw : wtArr ms ds <= 1048576) : wtArr (allA x ms ds).2 (allD x ms ds) <= 2097152 := by
 unfold allA allD
 split
 . have h := allR_wt ds (x, ms)
   unfold wtArr at hw ⊢
   have h1 : wtMemS (allR (x, ms) ds).1.2 <= max (wtMemS ms) 10005 := h.1
   have h2 := h.2
   omega
 . show wtArr ms ds <= _
   omega

def ArrOutC (w w' : World) (e : Ending) (q : ArrN × List MemD) (code : Int) (ds : List (Int × List Int)) : Prop :=
 ∃ (bm bd : Option Addr) (cm cd : Nat), e = .returned (.tuple #[.agg (arrC q.1 (.slice bm q.2.length cm) (.slice bd ds.length cd)), .int .i64 code]) /\ ArrIn w' w.heap.size w'.heap.size bm bd q.2.length cm ds.length cd q.2 ds /\ Below w.heap.size w w'
theorem arr_outC {w w4 : World} {R lo : Nat} {y : ArrN} {ns : List MemD} {ds : List (Int × List Int)} {vm vd : Option Addr} {cvm cvd : Nat} {fm fd : List Nat} {e : Ending} {T : TypeId} {cs : Array Value} {code : Int} (hb : Below w.heap.size w w4) (_ : Box w4 R T cs) (he : e = .returned (.tuple #[.agg (arrC y (.slice vm ns.length cvm) (.slice vd ds.length cvd)), .int .i64 code])) (hm : (tMemS 159 109).Mine w4 [.slice vm ns.length cvm] ns fm) (hd : (tWrS 86).Mine w4 [.slice vd ds.length cvd] ds fd) (hr : ∀ b ∈ fm, b ∉ fd) (rm : ∀ b ∈ fm, lo <= b) (rd : ∀ b ∈ fd, lo <= b) (h1 : w.heap.size <= R) (h2 : R < lo) :
 ArrOutC w (puts w4 R [(0, .int .i64 y.id), (1, .int .i64 y.n), (2, .int .i64 y.s), (3, .slice vm ns.length cvm), (4, .int .i64 y.lost), (5, .int .i64 y.built), (6, .int .i64 y.seq), (7, .int .i64 y.tail), (8, .int .i64 y.gen), (9, .slice vd ds.length cvd), (10, .int .i64 y.fuse), (11, .bool y.down), (12, .bool y.broken)]) e (y, ns) code ds := by
 have hbt := puts_but R [(0, .int .i64 y.id), (1, .int .i64 y.n), (2, .int .i64 y.s), (3, .slice vm ns.length cvm), (4, .int .i64 y.lost), (5, .int .i64 y.built), (6, .int .i64 y.seq), (7, .int .i64 y.tail), (8, .int .i64 y.gen), (9, .slice vd ds.length cvd), (10, .int .i64 y.fuse), (11, .bool y.down), (12, .bool y.broken)] w4
 have hz := hbt.size
 have hlm := hm.lt
 have hld := hd.lt
 refine ⟨vm, vd, cvm, cvd, he, ⟨fm, fd, hm.but hbt (fun b hb => by have := rm b hb; omega), hd.but hbt (fun b hb => by have := rd b hb; omega), hr, fun b hb => ?_, fun b hb => ?_⟩, Below.andBut hb hbt h1⟩
 . have h3 := rm b hb
   have h4 := hlm b hb
   omega
 . have h3 := rd b hb
   have h4 := hld b hb
   omega

theorem puts_arr {w : World} {B : Nat} {T : TypeId} {z0 z1 z2 z3 z4 z5 z6 z7 z8 z9 z10 z11 z12 : Value} (h : Box w B T #[z0, z1, z2, z3, z4, z5, z6, z7, z8, z9, z10, z11, z12]) (c0 c1 c2 c3 c4 c5 c6 c7 c8 c9 c10 c11 c12 : Value) : Box (puts w B [(0, c0), (1, c1), (2, c2), (3, c3), (4, c4), (5, c5), (6, c6), (7, c7), (8, c8), (9, c9), (10, c10), (11, c11), (12, c12)]) B T #[c0, c1, c2, c3, c4, c5, c6, c7, c8, c9, c10, c11, c12] := by
 simp only [puts]
 have := (((((((((((((h.set 0 c0).set 1 c1).set 2 c2).set 3 c3).set 4 c4).set 5 c5).set 6 c6).set 7 c7).set 8 c8).set 9 c9).set 10 c10).set 11 c11).set 12 c12)
 simpa using this

def Outed (W : World) (x : ArrN) (ms : List MemD) (ds : List EntD) (B : Nat) (WF : World) (bm : Option Addr) (cm : Nat) (bd : Option Addr) (cd : Nat) : Prop :=
 Below W.heap.size W WF /\ W.heap.size <= B /\ Box WF B 29 (arrC x (.slice bm ms.length cm) (.slice bd ds.length cd)) /\ ∃ fm fd, (tMemS 159 109).Mine WF [.slice bm ms.length cm] ms fm /\ (tWrS 86).Mine WF [.slice bd ds.length cd] ds fd /\ (∀ b ∈ fm, b ∉ fd) /\ (∀ b ∈ fm, W.heap.size <= b /\ ¬ b = B) /\ (∀ b ∈ fd, W.heap.size <= b /\ ¬ b = B)
theorem with_keyO {C : Prop} {A G : Nat -> World -> Option Addr -> Nat -> Option Addr -> Nat -> Prop} (main : ∀ B WF bm cm bd cd, A B WF bm cm bd cd -> G B WF bm cm bd cd) (use : Hid (∀ B WF bm cm bd cd, A B WF bm cm bd cd -> G B WF bm cm bd cd) -> C) : C := use main
theorem outed_store {W w1 : World} {x : ArrN} {ms : List MemD} {ds : List EntD} {B : Nat} {bm bd : Option Addr} {cm cd lo m hi : Nat} (hb : Below W.heap.size W w1) (hB : W.heap.size <= B) (X : Box w1 B 29 #[.int .i64 0, .int .i64 0, .int .i64 0, .slice none 0 0, .int .i64 0, .int .i64 0, .int .i64 0, .int .i64 0, .int .i64 0, .slice none 0 0, .int .i64 0, .bool false, .bool false]) (om : (tMemS 159 109).Own w1 lo m [.slice bm ms.length cm] ms) (od : (tWrS 86).Own w1 m hi [.slice bd ds.length cd] ds) (hlo : W.heap.size <= lo) (hlm : lo <= m) (hm : m <= hi) (hBB : B < lo ∨ hi <= B) :
 Outed W x ms ds B (puts w1 B [(0, .int .i64 x.id), (1, .int .i64 x.n), (2, .int .i64 x.s), (3, .slice bm ms.length cm), (4, .int .i64 x.lost), (5, .int .i64 x.built), (6, .int .i64 x.seq), (7, .int .i64 x.tail), (8, .int .i64 x.gen), (9, .slice bd ds.length cd), (10, .int .i64 x.fuse), (11, .bool x.down), (12, .bool x.broken)]) bm cm bd cd := by
 have hbt := puts_but B [(0, .int .i64 x.id), (1, .int .i64 x.n), (2, .int .i64 x.s), (3, .slice bm ms.length cm), (4, .int .i64 x.lost), (5, .int .i64 x.built), (6, .int .i64 x.seq), (7, .int .i64 x.tail), (8, .int .i64 x.gen), (9, .slice bd ds.length cd), (10, .int .i64 x.fuse), (11, .bool x.down), (12, .bool x.broken)] w1
 obtain ⟨fm, mm, rm⟩ := om.mine
 obtain ⟨fd, md, rd⟩ := od.mine
 have hmh : ∀ b ∈ fd, m <= b /\ b < hi := rd
 refine ⟨Below.andBut hb hbt hB, hB, by unfold arrC; exact puts_arr X _ _ _ _ _ _ _ _ _ _ _ _ _, fm, fd, mm.but hbt (fun b hb => ?_), md.but hbt (fun b hb => ?_), fun b hb hb' => ?_, fun b hb => ?_, fun b hb => ?_⟩
 . have := rm b hb
   omega
 . have := rd b hb
   omega
 . have h1 := rm b hb
   have h2 := rd b hb'
   omega
 . have := rm b hb
   omega
 . have := rd b hb
   omega
theorem outed_new {W w1 : World} {x : ArrN} {ms : List MemD} {ds : List EntD} {bm bd : Option Addr} {cm cd lo m : Nat} (hb : Below W.heap.size W w1) (om : (tMemS 159 109).Own w1 lo m [.slice bm ms.length cm] ms) (od : (tWrS 86).Own w1 m w1.heap.size [.slice bd ds.length cd] ds) (hlo : W.heap.size <= lo) (hlm : lo <= m) (hm : m <= w1.heap.size) :
 Outed W x ms ds w1.heap.size (w1.alloc (.cells #[.int .i64 x.id, .int .i64 x.n, .int .i64 x.s, .slice bm ms.length cm, .int .i64 x.lost, .int .i64 x.built, .int .i64 x.seq, .int .i64 x.tail, .int .i64 x.gen, .slice bd ds.length cd, .int .i64 x.fuse, .bool x.down, .bool x.broken] 29)) bm cm bd cd := by
 obtain ⟨fm, mm, rm⟩ := (om.below (new_below w1 (.cells #[.int .i64 x.id, .int .i64 x.n, .int .i64 x.s, .slice bm ms.length cm, .int .i64 x.lost, .int .i64 x.built, .int .i64 x.seq, .int .i64 x.tail, .int .i64 x.gen, .slice bd ds.length cd, .int .i64 x.fuse, .bool x.down, .bool x.broken] 29))).mine
 obtain ⟨fd, md, rd⟩ := (od.below (new_below w1 (.cells #[.int .i64 x.id, .int .i64 x.n, .int .i64 x.s, .slice bm ms.length cm, .int .i64 x.lost, .int .i64 x.built, .int .i64 x.seq, .int .i64 x.tail, .int .i64 x.gen, .slice bd ds.length cd, .int .i64 x.fuse, .bool x.down, .bool x.broken] 29))).mine
 refine ⟨Below.andThen hb (new_below _ _), hb.size, Box.new _ _ _, fm, fd, mm, md, fun b hb hb' => ?_, fun b hb => ?_, fun b hb => ?_⟩
 . have h1 := rm b hb
   have h2 := rd b hb'
   omega
 . have := rm b hb
   omega
 . have := rd b hb
   omega

theorem perStripe_any (w : World) (n s : Int) (h1 : 3 <= n) (h2 : n <= 5) : Calls Tryz.prog 108 #[.agg #[.int .i64 n, .int .i64 s]] w fun e w' => e = .returned (.int .i64 (n - 1)) /\ Below w.heap.size w w' := by
 have hA := new_below w (.cells #[.int .i64 n, .int .i64 s] 25)
 obtain ⟨k0, k1⟩ := (Gbox.new w 25 n s).cells
 go_enter Tryz.func108, Tryz.ntmps108
 go_wp2
 go_ret
 exact ⟨ret_int (by first | rfl | omega), hA⟩

theorem implBlocks_any (w : World) (n s : Int) : Calls Tryz.prog 190 #[.agg #[.int .i64 n, .int .i64 s]] w fun e w' => e = .returned (.int .i64 (blocksN n s)) /\ Below w.heap.size w w' := by
 have hA := new_below w (.cells #[.int .i64 n, .int .i64 s] 25)
 have X := Gbox.new w 25 n s
 obtain ⟨k0, k1⟩ := X.cells
 have zA := X.lt
 go_enter Tryz.func190, Tryz.ntmps190
 go_wp2_with fail
 refine (implGeoOk_any _ _ _).mono ?_
 rintro e w1 ⟨rfl, b1⟩
 have X1 := X.below b1 zA
 have z1 := X1.lt
 obtain ⟨p0, p1⟩ := X1.cells
 have B1 := Below.andThen hA b1
 clear k0 k1 X b1 hA zA
 by_cases hg : geoB n s = true
 . obtain ⟨h1, h2, h3, h4⟩ := geoB_iff.1 hg
   have hm := geoB_blocks hg
   have HB := hidden (blocksN_of hg)
   have gw : IntKind.i64.wrap (s * (n - 1)) = s * (n - 1) := IntWalk.i64_in _ (by omega)
   go_wp2_with fail
   go_region_held3 (fun w' => w'.cell? ⟨w.heap.size, 0, none⟩ = some (.int .i64 n) /\ w'.cell? ⟨w.heap.size, 1, none⟩ = some (.int .i64 s))
    (first | (exact ⟨(b2.cell (p := ⟨w.heap.size, 0, none⟩) z1).trans p0, (b2.cell (p := ⟨w.heap.size, 1, none⟩) z1).trans p1⟩) | (exact ⟨p0, p1⟩) | go_keep)
    (first
     | (go_at_call 108; refine (perStripe_any _ _ _ h1 h2).mono ?_; rintro e w2 ⟨rfl, b2'⟩; have b2 : Below w1.heap.size w1 w2 := (by exact (Below.refl w1.heap.size w1).drew.trans b2')))
   go_wp2
   go_ret
   exact ⟨ret_int (by rw [HB.out]), Below.andThen B1 b2⟩
 . have hg : geoB n s = false := by simpa using hg
   go_wp2
   go_ret
   exact ⟨ret_int (blocksN_not hg).symm, B1⟩

theorem stripeB_of {n s t : Int} : stripeB n s t = true ↔ geoB n s = true /\ 0 <= t /\ t < s := by unfold stripeB; rw [Bool.and_eq_true, inB_iff]; constructor <;> (rintro ⟨a, b⟩; exact ⟨a, by omega⟩)
theorem stripeB_not {n s t : Int} : stripeB n s t = false ↔ ¬ (geoB n s = true /\ 0 <= t /\ t < s) := by rw [← stripeB_of]; simp

theorem hasStripe_any (w : World) (n s t : Int) : Calls Tryz.prog 110 #[.agg #[.int .i64 n, .int .i64 s], .int .i64 t] w fun e w' => e = .returned (.bool (stripeB n s t)) /\ Below w.heap.size w w' := by
 have hA := new_below w (.cells #[.int .i64 n, .int .i64 s] 25)
 have X := Gbox.new w 25 n s
 obtain ⟨k0, k1⟩ := X.cells
 have zA := X.lt
 go_enter Tryz.func110, Tryz.ntmps110
 go_wp2_with fail
 refine (implGeoOk_any _ _ _).mono ?_
 rintro e w1 ⟨rfl, b1⟩
 have X1 := X.below b1 zA
 obtain ⟨p0, p1⟩ := X1.cells
 have B1 := Below.andThen hA b1
 clear k0 k1 X b1 hA zA
 by_cases hg : geoB n s = true
 . by_cases h1 : 0 <= t
   . by_cases h2 : t < s
     . go_wp2
       go_ret
       exact ⟨ret_bool (by symm; rw [stripeB_of]; exact ⟨hg, h1, h2⟩), B1⟩
     . go_wp2
       go_ret
       exact ⟨ret_bool (by first | (exact (stripeB_not.2 (by omega)).symm) | (rw [stripeB_not.2 (by omega)]; simp; omega)), B1⟩
   . go_wp2
     go_ret
     exact ⟨ret_bool (by first | (exact (stripeB_not.2 (by omega)).symm) | (rw [stripeB_not.2 (by omega)]; simp; omega)), B1⟩
 . have hg : geoB n s = false := by simpa using hg
   go_wp2
   go_ret
   exact ⟨ret_bool (by symm; rw [stripeB_not]; simp [hg]), B1⟩

theorem implParityOf_any (w : World) (n s t : Int) : Calls Tryz.prog 215 #[.agg #[.int .i64 n, .int .i64 s], .int .i64 t] w fun e w' => e = .returned (.int .i64 (parN n s t)) /\ Below w.heap.size w w' := by
 have hA := new_below w (.cells #[.int .i64 n, .int .i64 s] 25)
 have X := Gbox.new w 25 n s
 obtain ⟨k0, k1⟩ := X.cells
 have zA := X.lt
 go_enter Tryz.func215, Tryz.ntmps215
 go_wp2_with fail
 refine (hasStripe_any _ _ _ _).mono ?_
 rintro e w1 ⟨rfl, b1⟩
 have X1 := X.below b1 zA
 obtain ⟨p0, p1⟩ := X1.cells
 have B1 := Below.andThen hA b1
 clear k0 k1 X b1 hA zA
 by_cases hg : stripeB n s t = true
 . obtain ⟨hg1, h1, h2⟩ := stripeB_of.1 hg
   obtain ⟨g1, g2, g3, g4⟩ := geoB_iff.1 hg1
   have hm1 : 0 <= t % n := Int.emod_nonneg _ (by omega)
   have hm2 : t % n < n := Int.emod_lt_of_pos _ (by omega)
   have HB : Hid (parN n s t = n - 1 - t % n) := by unfold Hid parN; rw [if_pos hg]
   go_wp2_with fail
   go_quiet (fail)
   go_wp2
   go_ret
   exact ⟨ret_int (by rw [HB.out]), Below.andSame B1 ((Same.refl _).drewN _)⟩
 . have hg' : stripeB n s t = false := by simpa using hg
   go_wp2
   go_ret
   exact ⟨ret_int (by unfold parN; rw [if_neg hg]), B1⟩

theorem blockB_of {n s b : Int} : blockB n s b = true ↔ 0 <= b /\ b < blocksN n s := by unfold blockB; rw [inB_iff]; omega
theorem blockB_not {n s b : Int} : blockB n s b = false ↔ ¬ (0 <= b /\ b < blocksN n s) := by rw [← blockB_of]; simp
theorem blockB_geo {n s b : Int} (h : blockB n s b = true) : geoB n s = true := by
 rw [blockB_of] at h
 by_cases hg : geoB n s = true
 . exact hg
 . rw [blocksN_not (by simpa using hg)] at h
   omega

theorem placeOf_any (w : World) (n s b : Int) : Calls Tryz.prog 139 #[.agg #[.int .i64 n, .int .i64 s], .int .i64 b] w fun e w' => e = .returned (.agg #[.int .i64 (stripeN n s b), .int .i64 (indexN n s b)]) /\ Below w.heap.size w w' := by
 have hA : Below w.heap.size w ((w.alloc (.cells #[.int .i64 n, .int .i64 s] 25)).alloc (.cells #[.int .i64 0, .int .i64 0] 135)) := (new_below w _).alloc (by simp) _
 have X : Gbox ((w.alloc (.cells #[.int .i64 n, .int .i64 s] 25)).alloc (.cells #[.int .i64 0, .int .i64 0] 135)) w.heap.size 25 n s := (Gbox.new w 25 n s).below (new_below _ _) (by simp)
 have Y : Gbox ((w.alloc (.cells #[.int .i64 n, .int .i64 s] 25)).alloc (.cells #[.int .i64 0, .int .i64 0] 135)) (w.heap.size + 1) 135 0 0 := by
  have := Gbox.new (w.alloc (.cells #[.int .i64 n, .int .i64 s] 25)) 135 0 0
  simpa using this
 obtain ⟨k0, k1⟩ := X.cells
 obtain ⟨j0, j1⟩ := Y.cells
 have f0 := Y.frozen 0
 have f1 := Y.frozen 1
 go_enter Tryz.func139, Tryz.ntmps139
 by_cases h0 : 0 <= b
 . go_wp2_with fail
   refine (implBlocks_any _ _ _).mono ?_
   rintro e w1 ⟨rfl, b1⟩
   have hz : w.heap.size + 1 < ((w.alloc (.cells #[.int .i64 n, .int .i64 s] 25)).alloc (.cells #[.int .i64 0, .int .i64 0] 135)).heap.size := by simp
   have X1 := X.below b1 (by omega)
   have Y1 := Y.below b1 hz
   have B1 := hA.trans (b1.mono hA.size)
   have hr := blocksN_range n s
   clear k0 k1 j0 j1 f0 f1 X Y hA b1 hz
   obtain ⟨k0, k1⟩ := X1.cells
   obtain ⟨j0, j1⟩ := Y1.cells
   have f0 := Y1.frozen 0
   have f1 := Y1.frozen 1
   have z1 := Y1.lt
   by_cases h1 : b < blocksN n s
   . have hb := blockB_of.2 ⟨h0, h1⟩
     obtain ⟨g1, g2, g3, g4⟩ := geoB_iff.1 (blockB_geo hb)
     have HS : Hid (stripeN n s b = b / (n - 1)) := by unfold Hid stripeN; rw [if_pos hb]
     have HI : Hid (indexN n s b = b % (n - 1)) := by unfold Hid indexN; rw [if_pos hb]
     have d1 : 0 <= b / (n - 1) := Int.ediv_nonneg (by omega) (by omega)
     have d2 : b / (n - 1) <= b := Int.ediv_le_self _ (by omega)
     have d3 : 0 <= b % (n - 1) := Int.emod_nonneg _ (by omega)
     have d4 : b % (n - 1) < n - 1 := Int.emod_lt_of_pos _ (by omega)
     have e1 : ¬ n - 1 = 0 := by omega
     have e3 : b.tmod (n - 1) = b % (n - 1) := Int.tmod_eq_emod_of_nonneg h0
     have e2 : IntKind.i64.wrap (b.tdiv (n - 1)) = b / (n - 1) := by rw [Int.tdiv_eq_ediv_of_nonneg h0]; exact IntWalk.i64_in _ (by omega)
     go_wp2_with fail
     go_region_held3 (fun w' => w'.cell? ⟨w.heap.size, 0, none⟩ = some (.int .i64 n) /\ w'.cell? ⟨w.heap.size, 1, none⟩ = some (.int .i64 s))
      (first | (exact X3.cells) | (exact X2.cells) | (exact X1.cells) | go_keep)
      (first
       | (go_at_call 108; refine (perStripe_any _ _ _ g1 g2).mono ?_; rintro e w3 ⟨rfl, b3⟩; have B3 := Below.andThen B2 b3; have X3 := X2.below b3 X2.lt; have Y3 := Y2.below b3 Y2.lt; obtain ⟨k0, k1⟩ := X3.cells; obtain ⟨j0, j1⟩ := Y3.cells; have f0 := Y3.frozen 0; have f1 := Y3.frozen 1)
       | (go_at_call 108; refine (perStripe_any _ _ _ g1 g2).mono ?_; rintro e w2 ⟨rfl, b2⟩; have B2 := Below.andThen B1.drew b2; have X2 := X1.drew.below b2 X1.lt; have Y2 := Y1.drew.below b2 Y1.lt; obtain ⟨k0, k1⟩ := X2.cells))
     have Z := Y3.set2 (b / (n - 1)) (b % (n - 1))
     have BZ := (B3.setCell (p := ⟨w.heap.size + 1, 0, none⟩) (by simp) (.int .i64 (b / (n - 1)))).setCell (p := ⟨w.heap.size + 1, 1, none⟩) (by simp) (.int .i64 (b % (n - 1)))
     generalize ((w3.setCell ⟨w.heap.size + 1, 0, none⟩ (.int .i64 (b / (n - 1)))).setCell ⟨w.heap.size + 1, 1, none⟩ (.int .i64 (b % (n - 1)))) = w4 at Z BZ ⊢
     obtain ⟨q0, q1⟩ := Z.cells
     go_wp2
     refine bodyPost_ret (v := .agg #[.int .i64 (b / (n - 1)), .int .i64 (b % (n - 1))]) (by simp [results, Tryz.results139, go_sem, q0, q1]) rfl ?_
     exact ⟨by rw [HS.out, HI.out], BZ⟩
   . have HN : blockB n s b = false := blockB_not.2 (fun h => h1 h.2)
     have Z := Y1.set2 (-1) (-1)
     have BZ := (B1.setCell (p := ⟨w.heap.size + 1, 0, none⟩) (by simp) (.int .i64 (-1))).setCell (p := ⟨w.heap.size + 1, 1, none⟩) (by simp) (.int .i64 (-1))
     obtain ⟨q0, q1⟩ := Z.cells
     go_wp2
     refine bodyPost_ret (v := .agg #[.int .i64 (-1), .int .i64 (-1)]) (by simp [results, Tryz.results139, go_sem, q0, q1]) rfl ?_
     exact ⟨by unfold stripeN indexN; rw [HN]; rfl, BZ⟩
 . have HN : blockB n s b = false := blockB_not.2 (fun h => h0 h.1)
   clear j0 j1 k0 k1 f0 f1
   go_wp2
   refine bodyPost_ret (v := .agg #[.int .i64 (-1), .int .i64 (-1)]) (by simp [results, Tryz.results139, go_sem]) rfl ?_
   exact ⟨by unfold stripeN indexN; rw [HN]; rfl, (new_below w _).alloc (by simp) _⟩

def recB6 (x : ArrN) : Bool := inB x.seq 0 60000 && (inB x.tail 0 60000 && inB (x.seq - x.tail) 0 4)
theorem lost_same6 {x : ArrN} (hg : geoB x.n x.s = true) : lostB x.n x.s x.lost x.built = lostB6 x := by
 obtain ⟨g1, g2, g3, g4⟩ := geoB_iff.1 hg
 rw [Bool.eq_iff_iff, lostB_iff]
 unfold lostB6
 simp only [Bool.and_eq_true, inB_iff, Bool.or_eq_true, Bool.not_eq_true', decide_eq_false_iff_not, decide_eq_true_eq]
 omega
theorem seq_same6 (x : ArrN) : seqB6 x = (inB x.gen 0 60000 && (inB x.fuse (-1) 1000 && recB6 x)) := by
 rw [Bool.eq_iff_iff]
 unfold seqB6 recB6
 simp only [Bool.and_eq_true, inB_iff, decide_eq_true_eq]
 omega
theorem arr_same6 {x : ArrN} {ms : List MemD} {ds : List (Int × List Int)} (hg : geoB x.n x.s = true) : arrB x ms ds = (inB x.id 1 60000 && (lostB x.n x.s x.lost x.built && (inB x.gen 0 60000 && (inB x.fuse (-1) 1000 && (memsB x ms && (recB6 x && entsB x ds)))))) := by
 unfold arrB
 rw [hg, lost_same6 hg, seq_same6]
 cases inB x.id 1 60000 <;> cases lostB6 x <;> cases inB x.gen 0 60000 <;> cases inB x.fuse (-1) 1000 <;> cases memsB x ms <;> cases recB6 x <;> cases entsB x ds <;> rfl
theorem stripe_in6 {x : ArrN} {y : Int} (hg : geoB x.n x.s = true) : stripeB x.n x.s y = inB y 0 (x.s - 1) := by unfold stripeB; rw [hg]; rfl
theorem sec_all6 {zs : List Int} (h : zs.length <= 12) : secB zs = allW zs := by unfold secB; simp [h]
theorem entAt_6 {x : ArrN} {ds : List (Int × List Int)} {p : Nat} {y : Int} {zs : List Int} {q : Int × List Int} (hq : ds[p]? = some q) (h : y <= q.1) : entAt x ds (p + 1) (y, zs) = false := by
 have : ds.getD (p + 1 - 1) (0, []) = q := by rw [Nat.add_sub_cancel, List.getD_eq_getElem?_getD, hq]; rfl
 unfold entAt
 rw [this]
 have h2 : ¬ q.1 < y := by omega
 simp [h2]

theorem sectorsOf_any (w : World) (n s : Int) (hs : 1 <= s /\ s <= 8) : Calls Tryz.prog 180 #[.agg #[.int .i64 n, .int .i64 s]] w fun e w' => e = .returned (.int .i64 (6 + s)) /\ Below w.heap.size w w' := by
 have hA := new_below w (.cells #[.int .i64 n, .int .i64 s] 25)
 obtain ⟨k0, k1⟩ := (Gbox.new w 25 n s).cells
 have hd : dataN s = 6 + s := by unfold dataN; split <;> omega
 have HD := hidden hd
 clear hd
 go_enter Tryz.func180, Tryz.ntmps180
 go_wp2_with fail
 refine (implDataAt_any _ _).mono ?_
 rintro e w1 ⟨rfl, h1⟩
 subst h1
 rw [HD.out]
 go_wp2
 go_ret
 exact ⟨rfl, hA⟩

theorem memsOk_any (w : World) (E F : TypeId) (x : ArrN) (am ad : Option Addr) (nm cm nd cd : Nat) (ms : List MemD) (h0 : (tMemS E F).Rd w [.slice am nm cm] ms) (hw : wtMemS ms <= 2097152) (hg : geoB x.n x.s = true) :
 Calls Tryz.prog 127 #[.agg #[.int .i64 x.id, .int .i64 x.n, .int .i64 x.s, .slice am nm cm, .int .i64 x.lost, .int .i64 x.built, .int .i64 x.seq, .int .i64 x.tail, .int .i64 x.gen, .slice ad nd cd, .int .i64 x.fuse, .bool x.down, .bool x.broken]] w fun e w' => e = .returned (.bool (memsB x ms)) /\ Below w.heap.size w w' := by
 obtain ⟨hl, hc, hm⟩ := row_length h0
 obtain ⟨g1, g2, g3, g4⟩ := geoB_iff.1 hg
 have hA := new_below w (.cells #[.int .i64 x.id, .int .i64 x.n, .int .i64 x.s, .slice am nm cm, .int .i64 x.lost, .int .i64 x.built, .int .i64 x.seq, .int .i64 x.tail, .int .i64 x.gen, .slice ad nd cd, .int .i64 x.fuse, .bool x.down, .bool x.broken] 29)
 have X := Box.new w 29 #[.int .i64 x.id, .int .i64 x.n, .int .i64 x.s, .slice am nm cm, .int .i64 x.lost, .int .i64 x.built, .int .i64 x.seq, .int .i64 x.tail, .int .i64 x.gen, .slice ad nd cd, .int .i64 x.fuse, .bool x.down, .bool x.broken]
 have zA := X.lt
 have hnm : nm <= 2097152 := by unfold wtMemS at hw; omega
 have h1 := h0.below hA
 obtain ⟨k0, k1, k2, k3, k4, k5, k6, k7, k8, k9, k10, k11, k12⟩ := X.cells13
 by_cases hN : (nm : Int) = x.n
 . have hN1 : ((nm : Int) == x.n) = true := by simpa using hN
   have hN2 : ((nm : Int) != x.n) = false := by simpa using hN
   have HN := hidden hN
   clear hN
   go_enter Tryz.func127, Tryz.ntmps127
   go_wp2
   generalize w.alloc (.cells #[.int .i64 x.id, .int .i64 x.n, .int .i64 x.s, .slice am nm cm, .int .i64 x.lost, .int .i64 x.built, .int .i64 x.seq, .int .i64 x.tail, .int .i64 x.gen, .slice ad nd cd, .int .i64 x.fuse, .bool x.down, .bool x.broken] 29) = W at hA X zA h1 k0 k1 k2 k3 k4 k5 k6 k7 k8 k9 k10 k11 k12 ⊢
   clear k0 k1 k2 k3 k4 k5 k6 k7 k8 k9 k10 k11 k12
   go_loopw [15] (fun i wr => ∃ j : Nat, j <= nm /\ i = .int .i64 j /\ (∀ (q : Nat) (m : MemD), q < j -> ms[q]? = some m -> memAt x q m = true) /\ Below W.heap.size W wr) (fun i _ => nm - (intOf i).toNat)
   case atStart => exact ⟨0, Nat.zero_le _, rfl, fun q m hq => by omega, Below.refl _ _⟩
   case round =>
    obtain ⟨j, hj, rfl, hall, hb⟩ := hrel
    have Xr := X.below hb zA
    by_cases hjn : j < nm
    . rcases quads_at rfl h1 with h0' | ⟨b, off, rfl, hbl, hcs⟩
      . omega
      have hdj : ms[j]? = some (ms[j]'(by omega)) := List.getElem?_eq_getElem (by omega)
      generalize ms[j]'(by omega) = m at hdj
      obtain ⟨v0, v1, v2, v3, hv0, hv1, hv2, hv3, hrv⟩ := hcs j m hdj
      obtain ⟨a0, c0, a1, c1, a3, c3, ss, cs, f, bs, rfl, rfl, rfl, rfl, rfl, r0, r1, r3⟩ := mem_at hrv
      have u0 := (hb.cell (p := ⟨b, off + j * 4, none⟩) hbl).trans hv0
      have u1 := (hb.cell (p := ⟨b, off + j * 4 + 1, none⟩) hbl).trans hv1
      have u2 := (hb.cell (p := ⟨b, off + j * 4 + 2, none⟩) hbl).trans hv2
      have u3 := (hb.cell (p := ⟨b, off + j * 4 + 3, none⟩) hbl).trans hv3
      have i1 : (0 : Int) <= (j : Int) := by omega
      have i2 : (j : Int) < (nm : Int) := by omega
      have hwm := Nat.le_trans (inner_leM hdj) hw
      have HDJ := hidden hdj
      clear hcs hv0 hv1 hv2 hv3 hrv hdj
      have b1 := new_below wr (.cells #[.slice a0 ss.length c0, .slice a1 cs.length c1, .bool f, .slice a3 bs.length c3] 109)
      have Y1 := Box.new wr 109 #[.slice a0 ss.length c0, .slice a1 cs.length c1, .bool f, .slice a3 bs.length c3]
      have X1 := Xr.below b1 Xr.lt
      have R0 := (r0.below hb).below b1
      have R1 := (r1.below hb).below b1
      have R3 := (r3.below hb).below b1
      have B1 := hb.trans (b1.mono hb.size)
      clear r0 r1 r3 b1
      obtain ⟨y0, y1, y2, y3⟩ := Y1.cells4
      obtain ⟨e0, e1, e2, e3, e4, e5, e6, e7, e8, e9, e10, e11, e12⟩ := X1.cells13
      have zy := Y1.lt
      have zx := X1.lt
      clear e0 e3 e5 e6 e7 e8 e9 e10 e11
      cases hM : memB ss cs bs
      . skip
        go_wp2_with fail
        generalize wr.alloc (.cells #[.slice a0 ss.length c0, .slice a1 cs.length c1, .bool f, .slice a3 bs.length c3] 109) = w1 at X1 Y1 R0 R1 R3 B1 y0 y1 y2 y3 e1 e2 e4 e12 zy zx ⊢
        refine wp_region_held_drew (S := fun w' => w'.cell? ⟨wr.heap.size, 0, none⟩ = some (.slice a0 ss.length c0) /\ w'.cell? ⟨wr.heap.size, 1, none⟩ = some (.slice a1 cs.length c1) /\ w'.cell? ⟨wr.heap.size, 2, none⟩ = some (.bool f) /\ w'.cell? ⟨wr.heap.size, 3, none⟩ = some (.slice a3 bs.length c3) /\ w'.cell? ⟨w.heap.size, 1, none⟩ = some (.int .i64 x.n) /\ w'.cell? ⟨w.heap.size, 2, none⟩ = some (.int .i64 x.s)) (by kernel_rfl) ?_ (fun hHeld => ?_)
        . exact ⟨y0, y1, y2, y3, e1, e2⟩
        refine held_t 0 hHeld ?_
        refine held_one (i := 1) (by kernel_rfl) rfl (by kernel_rfl) (fun K hK => ?_)
        go_simp
        refine (implMemOk_any _ E _ _ _ _ _ _ _ _ _ ss cs f bs R0.drew R1.drew R3.drew hwm).mono ?_
        rintro e w2 ⟨rfl, b2⟩
        rw [hM]
        have b2' : Below w1.heap.size w1 w2 := (Below.refl w1.heap.size w1).drew.trans b2
        clear b2
        go_wp2_with fail
        clear hHeld
        refine hK.out _ _ ?_ (fun hHeld => ?_)
        . exact ⟨(b2'.cell (p := ⟨wr.heap.size, 0, none⟩) zy).trans y0, (b2'.cell (p := ⟨wr.heap.size, 1, none⟩) zy).trans y1, (b2'.cell (p := ⟨wr.heap.size, 2, none⟩) zy).trans y2, (b2'.cell (p := ⟨wr.heap.size, 3, none⟩) zy).trans y3, (b2'.cell (p := ⟨w.heap.size, 1, none⟩) zx).trans e1, (b2'.cell (p := ⟨w.heap.size, 2, none⟩) zx).trans e2⟩
        clear hK K
        refine held_t 2 hHeld ?_
        refine held_t 3 hHeld ?_
        refine held_p 4 hHeld ?_
        refine held_p 5 hHeld ?_
        refine held_p 6 hHeld ?_
        refine held_p 7 hHeld ?_
        refine held_p 8 hHeld ?_
        refine held_none (i := 9) (by kernel_rfl) rfl (by kernel_rfl) hHeld ?_
        simp only [Act.put, List.setIfInBounds_toArray, List.set_cons_zero, List.set_cons_succ]
        refine held_p 10 hHeld ?_
        refine held_t 11 hHeld ?_
        refine wpAnyH_done (by kernel_rfl) ?_ _
        clear hHeld
        have HB := hidden (hA.trans ((B1.trans (b2'.mono B1.size)).mono hA.size))
        go_wp2
        go_ret
        exact ⟨ret_bool (by rw [show memsB x ms = false from (by unfold memsB; rw [allIx_no HDJ.out (by unfold memAt; simp [hM])]; rfl)]), HB.out⟩
      . by_cases hS : (ss.length : Int) = 6 + x.s
        . have hS1 : ((ss.length : Int) == 6 + x.s) = true := by simpa using hS
          have hS2 : ((ss.length : Int) != 6 + x.s) = false := by simpa using hS
          have HS := hidden hS
          clear hS
          cases f
          . skip
            go_wp2_with fail
            generalize wr.alloc (.cells #[.slice a0 ss.length c0, .slice a1 cs.length c1, .bool false, .slice a3 bs.length c3] 109) = w1 at X1 Y1 R0 R1 R3 B1 y0 y1 y2 y3 e1 e2 e4 e12 zy zx ⊢
            refine wp_region_held_drew (S := fun w' => w'.cell? ⟨wr.heap.size, 0, none⟩ = some (.slice a0 ss.length c0) /\ w'.cell? ⟨wr.heap.size, 1, none⟩ = some (.slice a1 cs.length c1) /\ w'.cell? ⟨wr.heap.size, 2, none⟩ = some (.bool false) /\ w'.cell? ⟨wr.heap.size, 3, none⟩ = some (.slice a3 bs.length c3) /\ w'.cell? ⟨w.heap.size, 1, none⟩ = some (.int .i64 x.n) /\ w'.cell? ⟨w.heap.size, 2, none⟩ = some (.int .i64 x.s)) (by kernel_rfl) ?_ (fun hHeld => ?_)
            . exact ⟨y0, y1, y2, y3, e1, e2⟩
            refine held_t 0 hHeld ?_
            refine held_one (i := 1) (by kernel_rfl) rfl (by kernel_rfl) (fun K hK => ?_)
            go_simp
            refine (implMemOk_any _ E _ _ _ _ _ _ _ _ _ ss cs false bs R0.drew R1.drew R3.drew hwm).mono ?_
            rintro e w2 ⟨rfl, b2⟩
            rw [hM]
            have b2' : Below w1.heap.size w1 w2 := (Below.refl w1.heap.size w1).drew.trans b2
            clear b2
            go_wp2_with fail
            clear hHeld
            refine hK.out _ _ ?_ (fun hHeld => ?_)
            . exact ⟨(b2'.cell (p := ⟨wr.heap.size, 0, none⟩) zy).trans y0, (b2'.cell (p := ⟨wr.heap.size, 1, none⟩) zy).trans y1, (b2'.cell (p := ⟨wr.heap.size, 2, none⟩) zy).trans y2, (b2'.cell (p := ⟨wr.heap.size, 3, none⟩) zy).trans y3, (b2'.cell (p := ⟨w.heap.size, 1, none⟩) zx).trans e1, (b2'.cell (p := ⟨w.heap.size, 2, none⟩) zx).trans e2⟩
            clear hK K
            refine held_t 2 hHeld ?_
            refine held_t 3 hHeld ?_
            refine held_t 4 hHeld ?_
            refine held_t 5 hHeld ?_
            refine held_t 6 hHeld ?_
            refine held_t 7 hHeld ?_
            refine held_t 8 hHeld ?_
            refine held_one (i := 9) (by kernel_rfl) rfl (by kernel_rfl) (fun K hK => ?_)
            go_simp
            refine (sectorsOf_any _ x.n x.s ⟨g3, g4⟩).mono ?_
            rintro e w3 ⟨rfl, b3⟩
            have b3' : Below w1.heap.size w1 w3 := Below.andThen b2' b3
            clear b3
            go_wp2_with fail
            clear hHeld
            refine hK.out _ _ ?_ (fun hHeld => ?_)
            . exact ⟨(b3'.cell (p := ⟨wr.heap.size, 0, none⟩) zy).trans y0, (b3'.cell (p := ⟨wr.heap.size, 1, none⟩) zy).trans y1, (b3'.cell (p := ⟨wr.heap.size, 2, none⟩) zy).trans y2, (b3'.cell (p := ⟨wr.heap.size, 3, none⟩) zy).trans y3, (b3'.cell (p := ⟨w.heap.size, 1, none⟩) zx).trans e1, (b3'.cell (p := ⟨w.heap.size, 2, none⟩) zx).trans e2⟩
            clear hK K
            refine held_t 10 hHeld ?_
            refine held_t 11 hHeld ?_
            refine wpAnyH_done (by kernel_rfl) ?_ _
            clear hHeld
            have n0 := (b3'.cell (p := ⟨w.heap.size, 4, none⟩) zx).trans e4
            have n1 := (b3'.cell (p := ⟨w.heap.size, 12, none⟩) zx).trans e12
            have n2 := (b3'.cell (p := ⟨wr.heap.size, 2, none⟩) zy).trans y2
            have HB := hidden (B1.trans (b3'.mono B1.size))
            have hat : memAt x j (ss, cs, false, bs) = true := (by unfold memAt; simp [hM, HS.out])
            go_wp2
            go_roundw
            case rel => exact ⟨j + 1, by omega, by go_num, fun q m hq hm' => by
             rcases Nat.lt_or_ge q j with h | h
             . exact hall q m h hm'
             . obtain rfl : q = j := by omega
               rw [HDJ.out] at hm'
               cases hm'
               exact hat, HB.out⟩
            case measure => simp [intOf]; omega
          . by_cases hL : (j : Int) = x.lost
            . have hL1 : ((j : Int) == x.lost) = true := by simpa using hL
              have hL2 : ((j : Int) != x.lost) = false := by simpa using hL
              have HL := hidden hL
              clear hL
              go_wp2_with fail
              generalize wr.alloc (.cells #[.slice a0 ss.length c0, .slice a1 cs.length c1, .bool true, .slice a3 bs.length c3] 109) = w1 at X1 Y1 R0 R1 R3 B1 y0 y1 y2 y3 e1 e2 e4 e12 zy zx ⊢
              refine wp_region_held_drew (S := fun w' => w'.cell? ⟨wr.heap.size, 0, none⟩ = some (.slice a0 ss.length c0) /\ w'.cell? ⟨wr.heap.size, 1, none⟩ = some (.slice a1 cs.length c1) /\ w'.cell? ⟨wr.heap.size, 2, none⟩ = some (.bool true) /\ w'.cell? ⟨wr.heap.size, 3, none⟩ = some (.slice a3 bs.length c3) /\ w'.cell? ⟨w.heap.size, 1, none⟩ = some (.int .i64 x.n) /\ w'.cell? ⟨w.heap.size, 2, none⟩ = some (.int .i64 x.s)) (by kernel_rfl) ?_ (fun hHeld => ?_)
              . exact ⟨y0, y1, y2, y3, e1, e2⟩
              refine held_t 0 hHeld ?_
              refine held_one (i := 1) (by kernel_rfl) rfl (by kernel_rfl) (fun K hK => ?_)
              go_simp
              refine (implMemOk_any _ E _ _ _ _ _ _ _ _ _ ss cs true bs R0.drew R1.drew R3.drew hwm).mono ?_
              rintro e w2 ⟨rfl, b2⟩
              rw [hM]
              have b2' : Below w1.heap.size w1 w2 := (Below.refl w1.heap.size w1).drew.trans b2
              clear b2
              go_wp2_with fail
              clear hHeld
              refine hK.out _ _ ?_ (fun hHeld => ?_)
              . exact ⟨(b2'.cell (p := ⟨wr.heap.size, 0, none⟩) zy).trans y0, (b2'.cell (p := ⟨wr.heap.size, 1, none⟩) zy).trans y1, (b2'.cell (p := ⟨wr.heap.size, 2, none⟩) zy).trans y2, (b2'.cell (p := ⟨wr.heap.size, 3, none⟩) zy).trans y3, (b2'.cell (p := ⟨w.heap.size, 1, none⟩) zx).trans e1, (b2'.cell (p := ⟨w.heap.size, 2, none⟩) zx).trans e2⟩
              clear hK K
              refine held_t 2 hHeld ?_
              refine held_t 3 hHeld ?_
              refine held_t 4 hHeld ?_
              refine held_t 5 hHeld ?_
              refine held_t 6 hHeld ?_
              refine held_t 7 hHeld ?_
              refine held_t 8 hHeld ?_
              refine held_one (i := 9) (by kernel_rfl) rfl (by kernel_rfl) (fun K hK => ?_)
              go_simp
              refine (sectorsOf_any _ x.n x.s ⟨g3, g4⟩).mono ?_
              rintro e w3 ⟨rfl, b3⟩
              have b3' : Below w1.heap.size w1 w3 := Below.andThen b2' b3
              clear b3
              go_wp2_with fail
              clear hHeld
              refine hK.out _ _ ?_ (fun hHeld => ?_)
              . exact ⟨(b3'.cell (p := ⟨wr.heap.size, 0, none⟩) zy).trans y0, (b3'.cell (p := ⟨wr.heap.size, 1, none⟩) zy).trans y1, (b3'.cell (p := ⟨wr.heap.size, 2, none⟩) zy).trans y2, (b3'.cell (p := ⟨wr.heap.size, 3, none⟩) zy).trans y3, (b3'.cell (p := ⟨w.heap.size, 1, none⟩) zx).trans e1, (b3'.cell (p := ⟨w.heap.size, 2, none⟩) zx).trans e2⟩
              clear hK K
              refine held_t 10 hHeld ?_
              refine held_t 11 hHeld ?_
              refine wpAnyH_done (by kernel_rfl) ?_ _
              clear hHeld
              have n0 := (b3'.cell (p := ⟨w.heap.size, 4, none⟩) zx).trans e4
              have n1 := (b3'.cell (p := ⟨w.heap.size, 12, none⟩) zx).trans e12
              have n2 := (b3'.cell (p := ⟨wr.heap.size, 2, none⟩) zy).trans y2
              have HB := hidden (B1.trans (b3'.mono B1.size))
              have hat : memAt x j (ss, cs, true, bs) = true := (by unfold memAt; simp [hM, HS.out, HL.out])
              go_wp2
              go_roundw
              case rel => exact ⟨j + 1, by omega, by go_num, fun q m hq hm' => by
               rcases Nat.lt_or_ge q j with h | h
               . exact hall q m h hm'
               . obtain rfl : q = j := by omega
                 rw [HDJ.out] at hm'
                 cases hm'
                 exact hat, HB.out⟩
              case measure => simp [intOf]; omega
            . have hL1 : ((j : Int) == x.lost) = false := by simpa using hL
              have hL2 : ((j : Int) != x.lost) = true := by simpa using hL
              have HL := hidden hL
              clear hL
              cases hBr : x.broken
              . rw [hBr] at e12
                go_wp2_with fail
                generalize wr.alloc (.cells #[.slice a0 ss.length c0, .slice a1 cs.length c1, .bool true, .slice a3 bs.length c3] 109) = w1 at X1 Y1 R0 R1 R3 B1 y0 y1 y2 y3 e1 e2 e4 e12 zy zx ⊢
                refine wp_region_held_drew (S := fun w' => w'.cell? ⟨wr.heap.size, 0, none⟩ = some (.slice a0 ss.length c0) /\ w'.cell? ⟨wr.heap.size, 1, none⟩ = some (.slice a1 cs.length c1) /\ w'.cell? ⟨wr.heap.size, 2, none⟩ = some (.bool true) /\ w'.cell? ⟨wr.heap.size, 3, none⟩ = some (.slice a3 bs.length c3) /\ w'.cell? ⟨w.heap.size, 1, none⟩ = some (.int .i64 x.n) /\ w'.cell? ⟨w.heap.size, 2, none⟩ = some (.int .i64 x.s)) (by kernel_rfl) ?_ (fun hHeld => ?_)
                . exact ⟨y0, y1, y2, y3, e1, e2⟩
                refine held_t 0 hHeld ?_
                refine held_one (i := 1) (by kernel_rfl) rfl (by kernel_rfl) (fun K hK => ?_)
                go_simp
                refine (implMemOk_any _ E _ _ _ _ _ _ _ _ _ ss cs true bs R0.drew R1.drew R3.drew hwm).mono ?_
                rintro e w2 ⟨rfl, b2⟩
                rw [hM]
                have b2' : Below w1.heap.size w1 w2 := (Below.refl w1.heap.size w1).drew.trans b2
                clear b2
                go_wp2_with fail
                clear hHeld
                refine hK.out _ _ ?_ (fun hHeld => ?_)
                . exact ⟨(b2'.cell (p := ⟨wr.heap.size, 0, none⟩) zy).trans y0, (b2'.cell (p := ⟨wr.heap.size, 1, none⟩) zy).trans y1, (b2'.cell (p := ⟨wr.heap.size, 2, none⟩) zy).trans y2, (b2'.cell (p := ⟨wr.heap.size, 3, none⟩) zy).trans y3, (b2'.cell (p := ⟨w.heap.size, 1, none⟩) zx).trans e1, (b2'.cell (p := ⟨w.heap.size, 2, none⟩) zx).trans e2⟩
                clear hK K
                refine held_t 2 hHeld ?_
                refine held_t 3 hHeld ?_
                refine held_t 4 hHeld ?_
                refine held_t 5 hHeld ?_
                refine held_t 6 hHeld ?_
                refine held_t 7 hHeld ?_
                refine held_t 8 hHeld ?_
                refine held_one (i := 9) (by kernel_rfl) rfl (by kernel_rfl) (fun K hK => ?_)
                go_simp
                refine (sectorsOf_any _ x.n x.s ⟨g3, g4⟩).mono ?_
                rintro e w3 ⟨rfl, b3⟩
                have b3' : Below w1.heap.size w1 w3 := Below.andThen b2' b3
                clear b3
                go_wp2_with fail
                clear hHeld
                refine hK.out _ _ ?_ (fun hHeld => ?_)
                . exact ⟨(b3'.cell (p := ⟨wr.heap.size, 0, none⟩) zy).trans y0, (b3'.cell (p := ⟨wr.heap.size, 1, none⟩) zy).trans y1, (b3'.cell (p := ⟨wr.heap.size, 2, none⟩) zy).trans y2, (b3'.cell (p := ⟨wr.heap.size, 3, none⟩) zy).trans y3, (b3'.cell (p := ⟨w.heap.size, 1, none⟩) zx).trans e1, (b3'.cell (p := ⟨w.heap.size, 2, none⟩) zx).trans e2⟩
                clear hK K
                refine held_t 10 hHeld ?_
                refine held_t 11 hHeld ?_
                refine wpAnyH_done (by kernel_rfl) ?_ _
                clear hHeld
                have n0 := (b3'.cell (p := ⟨w.heap.size, 4, none⟩) zx).trans e4
                have n1 := (b3'.cell (p := ⟨w.heap.size, 12, none⟩) zx).trans e12
                have n2 := (b3'.cell (p := ⟨wr.heap.size, 2, none⟩) zy).trans y2
                have HB := hidden (hA.trans ((B1.trans (b3'.mono B1.size)).mono hA.size))
                go_wp2
                go_ret
                exact ⟨ret_bool (by rw [show memsB x ms = false from (by unfold memsB; rw [allIx_no HDJ.out (by unfold memAt; simp [HL.out, hBr])]; rfl)]), HB.out⟩
              . rw [hBr] at e12
                go_wp2_with fail
                generalize wr.alloc (.cells #[.slice a0 ss.length c0, .slice a1 cs.length c1, .bool true, .slice a3 bs.length c3] 109) = w1 at X1 Y1 R0 R1 R3 B1 y0 y1 y2 y3 e1 e2 e4 e12 zy zx ⊢
                refine wp_region_held_drew (S := fun w' => w'.cell? ⟨wr.heap.size, 0, none⟩ = some (.slice a0 ss.length c0) /\ w'.cell? ⟨wr.heap.size, 1, none⟩ = some (.slice a1 cs.length c1) /\ w'.cell? ⟨wr.heap.size, 2, none⟩ = some (.bool true) /\ w'.cell? ⟨wr.heap.size, 3, none⟩ = some (.slice a3 bs.length c3) /\ w'.cell? ⟨w.heap.size, 1, none⟩ = some (.int .i64 x.n) /\ w'.cell? ⟨w.heap.size, 2, none⟩ = some (.int .i64 x.s)) (by kernel_rfl) ?_ (fun hHeld => ?_)
                . exact ⟨y0, y1, y2, y3, e1, e2⟩
                refine held_t 0 hHeld ?_
                refine held_one (i := 1) (by kernel_rfl) rfl (by kernel_rfl) (fun K hK => ?_)
                go_simp
                refine (implMemOk_any _ E _ _ _ _ _ _ _ _ _ ss cs true bs R0.drew R1.drew R3.drew hwm).mono ?_
                rintro e w2 ⟨rfl, b2⟩
                rw [hM]
                have b2' : Below w1.heap.size w1 w2 := (Below.refl w1.heap.size w1).drew.trans b2
                clear b2
                go_wp2_with fail
                clear hHeld
                refine hK.out _ _ ?_ (fun hHeld => ?_)
                . exact ⟨(b2'.cell (p := ⟨wr.heap.size, 0, none⟩) zy).trans y0, (b2'.cell (p := ⟨wr.heap.size, 1, none⟩) zy).trans y1, (b2'.cell (p := ⟨wr.heap.size, 2, none⟩) zy).trans y2, (b2'.cell (p := ⟨wr.heap.size, 3, none⟩) zy).trans y3, (b2'.cell (p := ⟨w.heap.size, 1, none⟩) zx).trans e1, (b2'.cell (p := ⟨w.heap.size, 2, none⟩) zx).trans e2⟩
                clear hK K
                refine held_t 2 hHeld ?_
                refine held_t 3 hHeld ?_
                refine held_t 4 hHeld ?_
                refine held_t 5 hHeld ?_
                refine held_t 6 hHeld ?_
                refine held_t 7 hHeld ?_
                refine held_t 8 hHeld ?_
                refine held_one (i := 9) (by kernel_rfl) rfl (by kernel_rfl) (fun K hK => ?_)
                go_simp
                refine (sectorsOf_any _ x.n x.s ⟨g3, g4⟩).mono ?_
                rintro e w3 ⟨rfl, b3⟩
                have b3' : Below w1.heap.size w1 w3 := Below.andThen b2' b3
                clear b3
                go_wp2_with fail
                clear hHeld
                refine hK.out _ _ ?_ (fun hHeld => ?_)
                . exact ⟨(b3'.cell (p := ⟨wr.heap.size, 0, none⟩) zy).trans y0, (b3'.cell (p := ⟨wr.heap.size, 1, none⟩) zy).trans y1, (b3'.cell (p := ⟨wr.heap.size, 2, none⟩) zy).trans y2, (b3'.cell (p := ⟨wr.heap.size, 3, none⟩) zy).trans y3, (b3'.cell (p := ⟨w.heap.size, 1, none⟩) zx).trans e1, (b3'.cell (p := ⟨w.heap.size, 2, none⟩) zx).trans e2⟩
                clear hK K
                refine held_t 10 hHeld ?_
                refine held_t 11 hHeld ?_
                refine wpAnyH_done (by kernel_rfl) ?_ _
                clear hHeld
                have n0 := (b3'.cell (p := ⟨w.heap.size, 4, none⟩) zx).trans e4
                have n1 := (b3'.cell (p := ⟨w.heap.size, 12, none⟩) zx).trans e12
                have n2 := (b3'.cell (p := ⟨wr.heap.size, 2, none⟩) zy).trans y2
                have HB := hidden (B1.trans (b3'.mono B1.size))
                have hat : memAt x j (ss, cs, true, bs) = true := (by unfold memAt; simp [hM, HS.out, hBr])
                go_wp2
                go_roundw
                case rel => exact ⟨j + 1, by omega, by go_num, fun q m hq hm' => by
                 rcases Nat.lt_or_ge q j with h | h
                 . exact hall q m h hm'
                 . obtain rfl : q = j := by omega
                   rw [HDJ.out] at hm'
                   cases hm'
                   exact hat, HB.out⟩
                case measure => simp [intOf]; omega
        . have hS1 : ((ss.length : Int) == 6 + x.s) = false := by simpa using hS
          have hS2 : ((ss.length : Int) != 6 + x.s) = true := by simpa using hS
          have HS := hidden hS
          clear hS
          go_wp2_with fail
          generalize wr.alloc (.cells #[.slice a0 ss.length c0, .slice a1 cs.length c1, .bool f, .slice a3 bs.length c3] 109) = w1 at X1 Y1 R0 R1 R3 B1 y0 y1 y2 y3 e1 e2 e4 e12 zy zx ⊢
          refine wp_region_held_drew (S := fun w' => w'.cell? ⟨wr.heap.size, 0, none⟩ = some (.slice a0 ss.length c0) /\ w'.cell? ⟨wr.heap.size, 1, none⟩ = some (.slice a1 cs.length c1) /\ w'.cell? ⟨wr.heap.size, 2, none⟩ = some (.bool f) /\ w'.cell? ⟨wr.heap.size, 3, none⟩ = some (.slice a3 bs.length c3) /\ w'.cell? ⟨w.heap.size, 1, none⟩ = some (.int .i64 x.n) /\ w'.cell? ⟨w.heap.size, 2, none⟩ = some (.int .i64 x.s)) (by kernel_rfl) ?_ (fun hHeld => ?_)
          . exact ⟨y0, y1, y2, y3, e1, e2⟩
          refine held_t 0 hHeld ?_
          refine held_one (i := 1) (by kernel_rfl) rfl (by kernel_rfl) (fun K hK => ?_)
          go_simp
          refine (implMemOk_any _ E _ _ _ _ _ _ _ _ _ ss cs f bs R0.drew R1.drew R3.drew hwm).mono ?_
          rintro e w2 ⟨rfl, b2⟩
          rw [hM]
          have b2' : Below w1.heap.size w1 w2 := (Below.refl w1.heap.size w1).drew.trans b2
          clear b2
          go_wp2_with fail
          clear hHeld
          refine hK.out _ _ ?_ (fun hHeld => ?_)
          . exact ⟨(b2'.cell (p := ⟨wr.heap.size, 0, none⟩) zy).trans y0, (b2'.cell (p := ⟨wr.heap.size, 1, none⟩) zy).trans y1, (b2'.cell (p := ⟨wr.heap.size, 2, none⟩) zy).trans y2, (b2'.cell (p := ⟨wr.heap.size, 3, none⟩) zy).trans y3, (b2'.cell (p := ⟨w.heap.size, 1, none⟩) zx).trans e1, (b2'.cell (p := ⟨w.heap.size, 2, none⟩) zx).trans e2⟩
          clear hK K
          refine held_t 2 hHeld ?_
          refine held_t 3 hHeld ?_
          refine held_t 4 hHeld ?_
          refine held_t 5 hHeld ?_
          refine held_t 6 hHeld ?_
          refine held_t 7 hHeld ?_
          refine held_t 8 hHeld ?_
          refine held_one (i := 9) (by kernel_rfl) rfl (by kernel_rfl) (fun K hK => ?_)
          go_simp
          refine (sectorsOf_any _ x.n x.s ⟨g3, g4⟩).mono ?_
          rintro e w3 ⟨rfl, b3⟩
          have b3' : Below w1.heap.size w1 w3 := Below.andThen b2' b3
          clear b3
          go_wp2_with fail
          clear hHeld
          refine hK.out _ _ ?_ (fun hHeld => ?_)
          . exact ⟨(b3'.cell (p := ⟨wr.heap.size, 0, none⟩) zy).trans y0, (b3'.cell (p := ⟨wr.heap.size, 1, none⟩) zy).trans y1, (b3'.cell (p := ⟨wr.heap.size, 2, none⟩) zy).trans y2, (b3'.cell (p := ⟨wr.heap.size, 3, none⟩) zy).trans y3, (b3'.cell (p := ⟨w.heap.size, 1, none⟩) zx).trans e1, (b3'.cell (p := ⟨w.heap.size, 2, none⟩) zx).trans e2⟩
          clear hK K
          refine held_t 10 hHeld ?_
          refine held_t 11 hHeld ?_
          refine wpAnyH_done (by kernel_rfl) ?_ _
          clear hHeld
          have n0 := (b3'.cell (p := ⟨w.heap.size, 4, none⟩) zx).trans e4
          have n1 := (b3'.cell (p := ⟨w.heap.size, 12, none⟩) zx).trans e12
          have n2 := (b3'.cell (p := ⟨wr.heap.size, 2, none⟩) zy).trans y2
          have HB := hidden (hA.trans ((B1.trans (b3'.mono B1.size)).mono hA.size))
          go_wp2
          go_ret
          exact ⟨ret_bool (by rw [show memsB x ms = false from (by unfold memsB; rw [allIx_no HDJ.out (by unfold memAt; simp [HS.out])]; rfl)]), HB.out⟩
    . have e : j = nm := by omega
      subst e
      have hAll : allIx (memAt x) ms = true := allIx_iff.2 (fun q m hq => hall q m (by have := (List.getElem?_eq_some_iff.1 hq).1; omega) hq)
      have HB := hidden (hA.trans (hb.mono hA.size))
      have hR : memsB x ms = true := by unfold memsB; rw [hAll, hl]; simpa using HN.out
      go_wp2
      go_ret
      exact ⟨ret_bool hR.symm, HB.out⟩
 . have hN1 : ((nm : Int) == x.n) = false := by simpa using hN
   have hN2 : ((nm : Int) != x.n) = true := by simpa using hN
   have hR : memsB x ms = false := by unfold memsB; rw [hl]; simp [hN]
   have HR := hidden hR
   clear hN hR
   go_enter Tryz.func127, Tryz.ntmps127
   go_wp2
   go_ret
   exact ⟨ret_bool HR.out.symm, hA⟩

theorem dirtyOk_any (w : World) (G : TypeId) (x : ArrN) (am ad : Option Addr) (nm cm nd cd : Nat) (ds : List (Int × List Int)) (h0 : (tWrS G).Rd w [.slice ad nd cd] ds) (hw : wtWrS ds <= 2097152) (hg : geoB x.n x.s = true) :
 Calls Tryz.prog 129 #[.agg #[.int .i64 x.id, .int .i64 x.n, .int .i64 x.s, .slice am nm cm, .int .i64 x.lost, .int .i64 x.built, .int .i64 x.seq, .int .i64 x.tail, .int .i64 x.gen, .slice ad nd cd, .int .i64 x.fuse, .bool x.down, .bool x.broken]] w fun e w' => e = .returned (.bool (entsB x ds)) /\ Below w.heap.size w w' := by
 obtain ⟨hl, hc, hm⟩ := row_length h0
 obtain ⟨g1, g2, g3, g4⟩ := geoB_iff.1 hg
 have hA := new_below w (.cells #[.int .i64 x.id, .int .i64 x.n, .int .i64 x.s, .slice am nm cm, .int .i64 x.lost, .int .i64 x.built, .int .i64 x.seq, .int .i64 x.tail, .int .i64 x.gen, .slice ad nd cd, .int .i64 x.fuse, .bool x.down, .bool x.broken] 29)
 have X := Box.new w 29 #[.int .i64 x.id, .int .i64 x.n, .int .i64 x.s, .slice am nm cm, .int .i64 x.lost, .int .i64 x.built, .int .i64 x.seq, .int .i64 x.tail, .int .i64 x.gen, .slice ad nd cd, .int .i64 x.fuse, .bool x.down, .bool x.broken]
 have zA := X.lt
 have hnd : nd <= 2097152 := by unfold wtWrS at hw; omega
 have h1 := h0.below hA
 obtain ⟨k0, k1, k2, k3, k4, k5, k6, k7, k8, k9, k10, k11, k12⟩ := X.cells13
 go_enter Tryz.func129, Tryz.ntmps129
 go_wp2
 generalize w.alloc (.cells #[.int .i64 x.id, .int .i64 x.n, .int .i64 x.s, .slice am nm cm, .int .i64 x.lost, .int .i64 x.built, .int .i64 x.seq, .int .i64 x.tail, .int .i64 x.gen, .slice ad nd cd, .int .i64 x.fuse, .bool x.down, .bool x.broken] 29) = W at hA X zA h1 k0 k1 k2 k3 k4 k5 k6 k7 k8 k9 k10 k11 k12 ⊢
 clear k0 k1 k2 k3 k4 k5 k6 k7 k8 k9 k10 k11 k12
 go_loopw [8] (fun i wr => ∃ j : Nat, j <= nd /\ i = .int .i64 j /\ (∀ (q : Nat) (d : Int × List Int), q < j -> ds[q]? = some d -> entAt x ds q d = true) /\ Below W.heap.size W wr) (fun i _ => nd - (intOf i).toNat)
 case atStart => exact ⟨0, Nat.zero_le _, rfl, fun q d hq => by omega, Below.refl _ _⟩
 case round =>
  obtain ⟨j, hj, rfl, hall, hb⟩ := hrel
  have Xr := X.below hb zA
  by_cases hjn : j < nd
  . rcases pairs_at rfl h1 with h0' | ⟨b, off, rfl, hbl, hcs⟩
    . omega
    have hdj : ds[j]? = some (ds[j]'(by omega)) := List.getElem?_eq_getElem (by omega)
    generalize ds[j]'(by omega) = d at hdj
    obtain ⟨v0, v1, hv0, hv1, hrv⟩ := hcs j d hdj
    obtain ⟨rfl, hrw⟩ := wr_rd hrv
    obtain ⟨av, cv, rfl⟩ := row_shape hrw
    obtain ⟨y, zs⟩ := d
    simp only at hv0 hv1 hrw hrv
    have u0 := (hb.cell (p := ⟨b, off + j * 2, none⟩) hbl).trans hv0
    have u1 := (hb.cell (p := ⟨b, off + j * 2 + 1, none⟩) hbl).trans hv1
    have i1 : (0 : Int) <= (j : Int) := by omega
    have i2 : (j : Int) < (nd : Int) := by omega
    have hwz : zs.length <= 2097152 := Nat.le_trans (inner_le' hdj) hw
    have HDJ := hidden hdj
    have b1 := new_below wr (.cells #[.int .i64 y, .slice av zs.length cv] 86)
    have Y1 := Box.new wr 86 #[.int .i64 y, .slice av zs.length cv]
    have X1 := Xr.below b1 Xr.lt
    have RZ := (hrw.below hb).below b1
    have B1 := hb.trans (b1.mono hb.size)
    obtain ⟨y0, y1⟩ := Y1.cells2
    obtain ⟨e0, e1, e2, e3, e4, e5, e6, e7, e8, e9, e10, e11, e12⟩ := X1.cells13
    have zy := Y1.lt
    have zx := X1.lt
    have zb : b < (wr.alloc (.cells #[.int .i64 y, .slice av zs.length cv] 86)).heap.size := Nat.lt_of_lt_of_le hbl B1.size
    have hq : ∀ (p : Nat) (q : Int × List Int), ds[p]? = some q -> (wr.alloc (.cells #[.int .i64 y, .slice av zs.length cv] 86)).cell? ⟨b, off + p * 2, none⟩ = some (.int .i64 q.1) := fun p q hpq => by
     obtain ⟨c0, c1, hc0, hc1, hrc⟩ := hcs p q hpq
     obtain ⟨rfl, _⟩ := wr_rd hrc
     exact (B1.cell (p := ⟨b, off + p * 2, none⟩) hbl).trans hc0
    have HQ := hidden hq
    clear hcs hv0 hv1 hrv hrw hdj hq b1 e0 e3 e4 e5 e6 e7 e8 e10 e11 e12
    cases hI : stripeB x.n x.s y
    . skip
      go_wp2_with fail
      generalize wr.alloc (.cells #[.int .i64 y, .slice av zs.length cv] 86) = w1 at X1 Y1 RZ B1 y0 y1 e1 e2 e9 zy zx zb HQ  ⊢
      refine wp_region_held_drew (S := fun w' => w'.cell? ⟨wr.heap.size, 0, none⟩ = some (.int .i64 y) /\ w'.cell? ⟨w.heap.size, 1, none⟩ = some (.int .i64 x.n) /\ w'.cell? ⟨w.heap.size, 2, none⟩ = some (.int .i64 x.s) /\ w'.cell? ⟨w.heap.size, 9, none⟩ = some (.slice (some ⟨b, off, none⟩) nd cd)) (by kernel_rfl) ?_ (fun hHeld => ?_)
      . exact ⟨y0, e1, e2, e9⟩
      refine held_t 0 hHeld ?_
      refine held_t 1 hHeld ?_
      refine held_t 2 hHeld ?_
      refine held_t 3 hHeld ?_
      refine held_one (i := 4) (by kernel_rfl) rfl (by kernel_rfl) (fun K hK => ?_)
      go_simp
      refine (hasStripe_any _ x.n x.s y).mono ?_
      rintro e w2 ⟨rfl, b2⟩
      have b2' : Below w1.heap.size w1 w2 := (Below.refl w1.heap.size w1).drew.trans b2
      clear b2
      rw [hI]
      go_wp2_with fail
      clear hHeld
      refine hK.out _ _ ?_ (fun hHeld => ?_)
      . exact ⟨(b2'.cell (p := ⟨wr.heap.size, 0, none⟩) zy).trans y0, (b2'.cell (p := ⟨w.heap.size, 1, none⟩) zx).trans e1, (b2'.cell (p := ⟨w.heap.size, 2, none⟩) zx).trans e2, (b2'.cell (p := ⟨w.heap.size, 9, none⟩) zx).trans e9⟩
      clear hK K
      refine held_t 5 hHeld ?_
      refine held_t 6 hHeld ?_
      refine held_p 7 hHeld ?_
      refine held_p 8 hHeld ?_
      refine held_p 9 hHeld ?_
      refine held_p 10 hHeld ?_
      refine held_p 11 hHeld ?_
      refine held_p 12 hHeld ?_
      refine held_p 13 hHeld ?_
      refine held_p 14 hHeld ?_
      refine held_p 15 hHeld ?_
      refine held_p 16 hHeld ?_
      refine held_p 17 hHeld ?_
      refine held_p 18 hHeld ?_
      refine held_p 19 hHeld ?_
      refine held_p 20 hHeld ?_
      refine held_t 21 hHeld ?_
      refine wpAnyH_done (by kernel_rfl) ?_ _
      clear hHeld
      have HB := hidden (hA.trans ((B1.trans (b2'.mono B1.size)).mono hA.size))
      have HE := hidden (entsB_no (x := x) HDJ.out (entAt_1 (by rw [← stripe_in6 hg]; exact hI)))
      go_wp2
      go_ret
      exact ⟨ret_bool HE.out.symm, HB.out⟩
    . have HI := hidden ((stripe_in6 hg).symm.trans hI)
      by_cases hj0 : j = 0
      . subst hj0
        simp only [Nat.zero_mul, Nat.add_zero] at u0 u1
        by_cases hL : (zs.length : Int) = x.n - 1
        . have hL1 : ((zs.length : Int) == x.n - 1) = true := by simpa using hL
          have hL2 : ((zs.length : Int) != x.n - 1) = false := by simpa using hL
          have HL := hidden hL
          have hsa : secB zs = allW zs := sec_all6 (by omega)
          have HSA := hidden hsa
          clear hL hsa
          cases hZ : secB zs
          . have HZ := hidden (HSA.out.symm.trans hZ)
            go_wp2_with fail
            generalize wr.alloc (.cells #[.int .i64 y, .slice av zs.length cv] 86) = w1 at X1 Y1 RZ B1 y0 y1 e1 e2 e9 zy zx zb HQ  ⊢
            refine wp_region_held_drew (S := fun w' => w'.cell? ⟨wr.heap.size, 0, none⟩ = some (.int .i64 y) /\ w'.cell? ⟨w.heap.size, 1, none⟩ = some (.int .i64 x.n) /\ w'.cell? ⟨w.heap.size, 2, none⟩ = some (.int .i64 x.s) /\ w'.cell? ⟨w.heap.size, 9, none⟩ = some (.slice (some ⟨b, off, none⟩) nd cd)) (by kernel_rfl) ?_ (fun hHeld => ?_)
            . exact ⟨y0, e1, e2, e9⟩
            refine held_t 0 hHeld ?_
            refine held_t 1 hHeld ?_
            refine held_t 2 hHeld ?_
            refine held_t 3 hHeld ?_
            refine held_one (i := 4) (by kernel_rfl) rfl (by kernel_rfl) (fun K hK => ?_)
            go_simp
            refine (hasStripe_any _ x.n x.s y).mono ?_
            rintro e w2 ⟨rfl, b2⟩
            have b2' : Below w1.heap.size w1 w2 := (Below.refl w1.heap.size w1).drew.trans b2
            clear b2
            rw [hI]
            go_wp2_with fail
            clear hHeld
            refine hK.out _ _ ?_ (fun hHeld => ?_)
            . exact ⟨(b2'.cell (p := ⟨wr.heap.size, 0, none⟩) zy).trans y0, (b2'.cell (p := ⟨w.heap.size, 1, none⟩) zx).trans e1, (b2'.cell (p := ⟨w.heap.size, 2, none⟩) zx).trans e2, (b2'.cell (p := ⟨w.heap.size, 9, none⟩) zx).trans e9⟩
            clear hK K
            refine held_t 5 hHeld ?_
            refine held_t 6 hHeld ?_
            refine held_t 7 hHeld ?_
            refine held_t 8 hHeld ?_
            refine held_t 9 hHeld ?_
            refine held_p 10 hHeld ?_
            refine held_p 11 hHeld ?_
            refine held_p 12 hHeld ?_
            refine held_p 13 hHeld ?_
            refine held_p 14 hHeld ?_
            refine held_p 15 hHeld ?_
            refine held_p 16 hHeld ?_
            refine held_p 17 hHeld ?_
            refine held_p 18 hHeld ?_
            refine held_p 19 hHeld ?_
            refine held_t 20 hHeld ?_
            refine held_t 21 hHeld ?_
            refine wpAnyH_done (by kernel_rfl) ?_ _
            clear hHeld
            have my1 := (b2'.cell (p := ⟨wr.heap.size, 1, none⟩) zy).trans y1
            have me1 := (b2'.cell (p := ⟨w.heap.size, 1, none⟩) zx).trans e1
            have me2 := (b2'.cell (p := ⟨w.heap.size, 2, none⟩) zx).trans e2
            have my := Nat.lt_of_lt_of_le zy b2'.size
            have mx := Nat.lt_of_lt_of_le zx b2'.size
            have RZ2 := RZ.below b2'
            go_wp2_with fail
            refine wp_region_held_drew (S := fun w' => w'.cell? ⟨wr.heap.size, 1, none⟩ = some (.slice av zs.length cv) /\ w'.cell? ⟨w.heap.size, 1, none⟩ = some (.int .i64 x.n) /\ w'.cell? ⟨w.heap.size, 2, none⟩ = some (.int .i64 x.s)) (by kernel_rfl) ?_ (fun hHeld => ?_)
            . exact ⟨my1, me1, me2⟩
            refine held_t 0 hHeld ?_
            refine held_t 1 hHeld ?_
            refine held_t 2 hHeld ?_
            refine held_t 3 hHeld ?_
            refine held_t 4 hHeld ?_
            refine held_one (i := 5) (by kernel_rfl) rfl (by kernel_rfl) (fun K hK => ?_)
            go_simp
            refine (perStripe_any _ x.n x.s g1 g2).mono ?_
            rintro e w3 ⟨rfl, b3⟩
            have b3' : Below w2.heap.size w2 w3 := (Below.refl w2.heap.size w2).drew.trans b3
            clear b3
            go_wp2_with fail
            clear hHeld
            refine hK.out _ _ ?_ (fun hHeld => ?_)
            . exact ⟨(b3'.cell (p := ⟨wr.heap.size, 1, none⟩) my).trans my1, (b3'.cell (p := ⟨w.heap.size, 1, none⟩) mx).trans me1, (b3'.cell (p := ⟨w.heap.size, 2, none⟩) mx).trans me2⟩
            clear hK K
            refine held_t 6 hHeld ?_
            refine held_t 7 hHeld ?_
            refine held_t 8 hHeld ?_
            refine held_t 9 hHeld ?_
            refine held_one (i := 10) (by kernel_rfl) rfl (by kernel_rfl) (fun K hK => ?_)
            go_simp
            refine (implSecOk_any _ _ _ _ zs rfl (ints_rd (RZ2.below b3')).1 hwz).mono ?_
            rintro e w4 ⟨rfl, s4⟩
            have b4' : Below w2.heap.size w2 w4 := Below.andThen b3' (s4.below _)
            clear s4
            rw [hZ]
            go_wp2_with fail
            clear hHeld
            refine hK.out _ _ ?_ (fun hHeld => ?_)
            . exact ⟨(b4'.cell (p := ⟨wr.heap.size, 1, none⟩) my).trans my1, (b4'.cell (p := ⟨w.heap.size, 1, none⟩) mx).trans me1, (b4'.cell (p := ⟨w.heap.size, 2, none⟩) mx).trans me2⟩
            clear hK K
            refine held_t 11 hHeld ?_
            refine held_t 12 hHeld ?_
            refine wpAnyH_done (by kernel_rfl) ?_ _
            clear hHeld
            have HB := hidden (hA.trans ((B1.trans ((Below.andThen b2' b4').mono B1.size)).mono hA.size))
            have HE := hidden (entsB_no (x := x) HDJ.out (entAt_3 HZ.out))
            go_wp2
            go_ret
            exact ⟨ret_bool HE.out.symm, HB.out⟩
          . have HZ := hidden (HSA.out.symm.trans hZ)
            go_wp2_with fail
            generalize wr.alloc (.cells #[.int .i64 y, .slice av zs.length cv] 86) = w1 at X1 Y1 RZ B1 y0 y1 e1 e2 e9 zy zx zb HQ  ⊢
            refine wp_region_held_drew (S := fun w' => w'.cell? ⟨wr.heap.size, 0, none⟩ = some (.int .i64 y) /\ w'.cell? ⟨w.heap.size, 1, none⟩ = some (.int .i64 x.n) /\ w'.cell? ⟨w.heap.size, 2, none⟩ = some (.int .i64 x.s) /\ w'.cell? ⟨w.heap.size, 9, none⟩ = some (.slice (some ⟨b, off, none⟩) nd cd)) (by kernel_rfl) ?_ (fun hHeld => ?_)
            . exact ⟨y0, e1, e2, e9⟩
            refine held_t 0 hHeld ?_
            refine held_t 1 hHeld ?_
            refine held_t 2 hHeld ?_
            refine held_t 3 hHeld ?_
            refine held_one (i := 4) (by kernel_rfl) rfl (by kernel_rfl) (fun K hK => ?_)
            go_simp
            refine (hasStripe_any _ x.n x.s y).mono ?_
            rintro e w2 ⟨rfl, b2⟩
            have b2' : Below w1.heap.size w1 w2 := (Below.refl w1.heap.size w1).drew.trans b2
            clear b2
            rw [hI]
            go_wp2_with fail
            clear hHeld
            refine hK.out _ _ ?_ (fun hHeld => ?_)
            . exact ⟨(b2'.cell (p := ⟨wr.heap.size, 0, none⟩) zy).trans y0, (b2'.cell (p := ⟨w.heap.size, 1, none⟩) zx).trans e1, (b2'.cell (p := ⟨w.heap.size, 2, none⟩) zx).trans e2, (b2'.cell (p := ⟨w.heap.size, 9, none⟩) zx).trans e9⟩
            clear hK K
            refine held_t 5 hHeld ?_
            refine held_t 6 hHeld ?_
            refine held_t 7 hHeld ?_
            refine held_t 8 hHeld ?_
            refine held_t 9 hHeld ?_
            refine held_p 10 hHeld ?_
            refine held_p 11 hHeld ?_
            refine held_p 12 hHeld ?_
            refine held_p 13 hHeld ?_
            refine held_p 14 hHeld ?_
            refine held_p 15 hHeld ?_
            refine held_p 16 hHeld ?_
            refine held_p 17 hHeld ?_
            refine held_p 18 hHeld ?_
            refine held_p 19 hHeld ?_
            refine held_t 20 hHeld ?_
            refine held_t 21 hHeld ?_
            refine wpAnyH_done (by kernel_rfl) ?_ _
            clear hHeld
            have my1 := (b2'.cell (p := ⟨wr.heap.size, 1, none⟩) zy).trans y1
            have me1 := (b2'.cell (p := ⟨w.heap.size, 1, none⟩) zx).trans e1
            have me2 := (b2'.cell (p := ⟨w.heap.size, 2, none⟩) zx).trans e2
            have my := Nat.lt_of_lt_of_le zy b2'.size
            have mx := Nat.lt_of_lt_of_le zx b2'.size
            have RZ2 := RZ.below b2'
            go_wp2_with fail
            refine wp_region_held_drew (S := fun w' => w'.cell? ⟨wr.heap.size, 1, none⟩ = some (.slice av zs.length cv) /\ w'.cell? ⟨w.heap.size, 1, none⟩ = some (.int .i64 x.n) /\ w'.cell? ⟨w.heap.size, 2, none⟩ = some (.int .i64 x.s)) (by kernel_rfl) ?_ (fun hHeld => ?_)
            . exact ⟨my1, me1, me2⟩
            refine held_t 0 hHeld ?_
            refine held_t 1 hHeld ?_
            refine held_t 2 hHeld ?_
            refine held_t 3 hHeld ?_
            refine held_t 4 hHeld ?_
            refine held_one (i := 5) (by kernel_rfl) rfl (by kernel_rfl) (fun K hK => ?_)
            go_simp
            refine (perStripe_any _ x.n x.s g1 g2).mono ?_
            rintro e w3 ⟨rfl, b3⟩
            have b3' : Below w2.heap.size w2 w3 := (Below.refl w2.heap.size w2).drew.trans b3
            clear b3
            go_wp2_with fail
            clear hHeld
            refine hK.out _ _ ?_ (fun hHeld => ?_)
            . exact ⟨(b3'.cell (p := ⟨wr.heap.size, 1, none⟩) my).trans my1, (b3'.cell (p := ⟨w.heap.size, 1, none⟩) mx).trans me1, (b3'.cell (p := ⟨w.heap.size, 2, none⟩) mx).trans me2⟩
            clear hK K
            refine held_t 6 hHeld ?_
            refine held_t 7 hHeld ?_
            refine held_t 8 hHeld ?_
            refine held_t 9 hHeld ?_
            refine held_one (i := 10) (by kernel_rfl) rfl (by kernel_rfl) (fun K hK => ?_)
            go_simp
            refine (implSecOk_any _ _ _ _ zs rfl (ints_rd (RZ2.below b3')).1 hwz).mono ?_
            rintro e w4 ⟨rfl, s4⟩
            have b4' : Below w2.heap.size w2 w4 := Below.andThen b3' (s4.below _)
            clear s4
            rw [hZ]
            go_wp2_with fail
            clear hHeld
            refine hK.out _ _ ?_ (fun hHeld => ?_)
            . exact ⟨(b4'.cell (p := ⟨wr.heap.size, 1, none⟩) my).trans my1, (b4'.cell (p := ⟨w.heap.size, 1, none⟩) mx).trans me1, (b4'.cell (p := ⟨w.heap.size, 2, none⟩) mx).trans me2⟩
            clear hK K
            refine held_t 11 hHeld ?_
            refine held_t 12 hHeld ?_
            refine wpAnyH_done (by kernel_rfl) ?_ _
            clear hHeld
            have HB := hidden (B1.trans ((Below.andThen b2' b4').mono B1.size))
            have hat : entAt x ds (0) (y, zs) = true := entAt_4 HI.out HL.out HZ.out
            go_wp2
            go_roundw
            case rel => exact ⟨0 + 1, by omega, by go_num, fun q d hq hm' => by
             rcases Nat.lt_or_ge q (0) with h | h
             . exact hall q d h hm'
             . obtain rfl : q = 0 := by omega
               rw [HDJ.out] at hm'
               cases hm'
               exact hat, HB.out⟩
            case measure => simp [intOf]; omega
        . have hL1 : ((zs.length : Int) == x.n - 1) = false := by simpa using hL
          have hL2 : ((zs.length : Int) != x.n - 1) = true := by simpa using hL
          have HL := hidden hL
          clear hL
          go_wp2_with fail
          generalize wr.alloc (.cells #[.int .i64 y, .slice av zs.length cv] 86) = w1 at X1 Y1 RZ B1 y0 y1 e1 e2 e9 zy zx zb HQ  ⊢
          refine wp_region_held_drew (S := fun w' => w'.cell? ⟨wr.heap.size, 0, none⟩ = some (.int .i64 y) /\ w'.cell? ⟨w.heap.size, 1, none⟩ = some (.int .i64 x.n) /\ w'.cell? ⟨w.heap.size, 2, none⟩ = some (.int .i64 x.s) /\ w'.cell? ⟨w.heap.size, 9, none⟩ = some (.slice (some ⟨b, off, none⟩) nd cd)) (by kernel_rfl) ?_ (fun hHeld => ?_)
          . exact ⟨y0, e1, e2, e9⟩
          refine held_t 0 hHeld ?_
          refine held_t 1 hHeld ?_
          refine held_t 2 hHeld ?_
          refine held_t 3 hHeld ?_
          refine held_one (i := 4) (by kernel_rfl) rfl (by kernel_rfl) (fun K hK => ?_)
          go_simp
          refine (hasStripe_any _ x.n x.s y).mono ?_
          rintro e w2 ⟨rfl, b2⟩
          have b2' : Below w1.heap.size w1 w2 := (Below.refl w1.heap.size w1).drew.trans b2
          clear b2
          rw [hI]
          go_wp2_with fail
          clear hHeld
          refine hK.out _ _ ?_ (fun hHeld => ?_)
          . exact ⟨(b2'.cell (p := ⟨wr.heap.size, 0, none⟩) zy).trans y0, (b2'.cell (p := ⟨w.heap.size, 1, none⟩) zx).trans e1, (b2'.cell (p := ⟨w.heap.size, 2, none⟩) zx).trans e2, (b2'.cell (p := ⟨w.heap.size, 9, none⟩) zx).trans e9⟩
          clear hK K
          refine held_t 5 hHeld ?_
          refine held_t 6 hHeld ?_
          refine held_t 7 hHeld ?_
          refine held_t 8 hHeld ?_
          refine held_t 9 hHeld ?_
          refine held_p 10 hHeld ?_
          refine held_p 11 hHeld ?_
          refine held_p 12 hHeld ?_
          refine held_p 13 hHeld ?_
          refine held_p 14 hHeld ?_
          refine held_p 15 hHeld ?_
          refine held_p 16 hHeld ?_
          refine held_p 17 hHeld ?_
          refine held_p 18 hHeld ?_
          refine held_p 19 hHeld ?_
          refine held_t 20 hHeld ?_
          refine held_t 21 hHeld ?_
          refine wpAnyH_done (by kernel_rfl) ?_ _
          clear hHeld
          have my1 := (b2'.cell (p := ⟨wr.heap.size, 1, none⟩) zy).trans y1
          have me1 := (b2'.cell (p := ⟨w.heap.size, 1, none⟩) zx).trans e1
          have me2 := (b2'.cell (p := ⟨w.heap.size, 2, none⟩) zx).trans e2
          have my := Nat.lt_of_lt_of_le zy b2'.size
          have mx := Nat.lt_of_lt_of_le zx b2'.size
          have RZ2 := RZ.below b2'
          go_wp2_with fail
          refine wp_region_held_drew (S := fun w' => w'.cell? ⟨wr.heap.size, 1, none⟩ = some (.slice av zs.length cv) /\ w'.cell? ⟨w.heap.size, 1, none⟩ = some (.int .i64 x.n) /\ w'.cell? ⟨w.heap.size, 2, none⟩ = some (.int .i64 x.s)) (by kernel_rfl) ?_ (fun hHeld => ?_)
          . exact ⟨my1, me1, me2⟩
          refine held_t 0 hHeld ?_
          refine held_t 1 hHeld ?_
          refine held_t 2 hHeld ?_
          refine held_t 3 hHeld ?_
          refine held_t 4 hHeld ?_
          refine held_one (i := 5) (by kernel_rfl) rfl (by kernel_rfl) (fun K hK => ?_)
          go_simp
          refine (perStripe_any _ x.n x.s g1 g2).mono ?_
          rintro e w3 ⟨rfl, b3⟩
          have b3' : Below w2.heap.size w2 w3 := (Below.refl w2.heap.size w2).drew.trans b3
          clear b3
          go_wp2_with fail
          clear hHeld
          refine hK.out _ _ ?_ (fun hHeld => ?_)
          . exact ⟨(b3'.cell (p := ⟨wr.heap.size, 1, none⟩) my).trans my1, (b3'.cell (p := ⟨w.heap.size, 1, none⟩) mx).trans me1, (b3'.cell (p := ⟨w.heap.size, 2, none⟩) mx).trans me2⟩
          clear hK K
          refine held_t 6 hHeld ?_
          refine held_t 7 hHeld ?_
          refine held_p 8 hHeld ?_
          refine held_p 9 hHeld ?_
          refine held_none (i := 10) (by kernel_rfl) rfl (by kernel_rfl) hHeld ?_
          simp only [Act.put, List.setIfInBounds_toArray, List.set_cons_zero, List.set_cons_succ]
          refine held_p 11 hHeld ?_
          refine held_t 12 hHeld ?_
          refine wpAnyH_done (by kernel_rfl) ?_ _
          clear hHeld
          have HB := hidden (hA.trans ((B1.trans ((Below.andThen b2' b3').mono B1.size)).mono hA.size))
          have HE := hidden (entsB_no (x := x) HDJ.out (entAt_2 HL.out))
          go_wp2
          go_ret
          exact ⟨ret_bool HE.out.symm, HB.out⟩
      . obtain ⟨p, rfl⟩ : ∃ p, j = p + 1 := ⟨j - 1, by omega⟩
        have hpq : ds[p]? = some (ds[p]'(by omega)) := List.getElem?_eq_getElem (by omega)
        generalize ds[p]'(by omega) = q at hpq
        have qc := HQ.out p q hpq
        obtain ⟨s, zq⟩ := q
        simp only at qc
        have HPQ := hidden hpq
        clear hpq
        have j1 : IntKind.i64.wrap (((p + 1 : Nat) : Int) - 1) = (p : Int) := by rw [IntWalk.i64_in _ (by omega)]; omega
        have j2 : IntKind.i64.wrap ((p : Int) + 1 - 1) = (p : Int) := by rw [IntWalk.i64_in _ (by omega)]; omega
        have j3 : IntKind.i64.wrap (p : Int) = (p : Int) := IntWalk.i64_in _ (by omega)
        have j4 : (0 : Int) <= (p : Int) := by omega
        have j5 : (p : Int) < (nd : Int) := by omega
        have j6 : (0 : Int) < ((p + 1 : Nat) : Int) := by omega
        by_cases hlt : s < y
        . have hge : ¬ y <= s := by omega
          by_cases hL : (zs.length : Int) = x.n - 1
          . have hL1 : ((zs.length : Int) == x.n - 1) = true := by simpa using hL
            have hL2 : ((zs.length : Int) != x.n - 1) = false := by simpa using hL
            have HL := hidden hL
            have hsa : secB zs = allW zs := sec_all6 (by omega)
            have HSA := hidden hsa
            clear hL hsa
            cases hZ : secB zs
            . have HZ := hidden (HSA.out.symm.trans hZ)
              go_wp2_with fail
              generalize wr.alloc (.cells #[.int .i64 y, .slice av zs.length cv] 86) = w1 at X1 Y1 RZ B1 y0 y1 e1 e2 e9 zy zx zb HQ qc ⊢
              refine wp_region_held_drew (S := fun w' => w'.cell? ⟨wr.heap.size, 0, none⟩ = some (.int .i64 y) /\ w'.cell? ⟨w.heap.size, 1, none⟩ = some (.int .i64 x.n) /\ w'.cell? ⟨w.heap.size, 2, none⟩ = some (.int .i64 x.s) /\ w'.cell? ⟨w.heap.size, 9, none⟩ = some (.slice (some ⟨b, off, none⟩) nd cd) /\ w'.cell? ⟨b, off + p * 2, none⟩ = some (.int .i64 s)) (by kernel_rfl) ?_ (fun hHeld => ?_)
              . exact ⟨y0, e1, e2, e9, qc⟩
              refine held_t 0 hHeld ?_
              refine held_t 1 hHeld ?_
              refine held_t 2 hHeld ?_
              refine held_t 3 hHeld ?_
              refine held_one (i := 4) (by kernel_rfl) rfl (by kernel_rfl) (fun K hK => ?_)
              go_simp
              refine (hasStripe_any _ x.n x.s y).mono ?_
              rintro e w2 ⟨rfl, b2⟩
              have b2' : Below w1.heap.size w1 w2 := (Below.refl w1.heap.size w1).drew.trans b2
              clear b2
              rw [hI]
              go_wp2_with fail
              clear hHeld
              refine hK.out _ _ ?_ (fun hHeld => ?_)
              . exact ⟨(b2'.cell (p := ⟨wr.heap.size, 0, none⟩) zy).trans y0, (b2'.cell (p := ⟨w.heap.size, 1, none⟩) zx).trans e1, (b2'.cell (p := ⟨w.heap.size, 2, none⟩) zx).trans e2, (b2'.cell (p := ⟨w.heap.size, 9, none⟩) zx).trans e9, (b2'.cell (p := ⟨b, off + p * 2, none⟩) zb).trans qc⟩
              clear hK K
              refine held_t 5 hHeld ?_
              refine held_t 6 hHeld ?_
              refine held_t 7 hHeld ?_
              refine held_t 8 hHeld ?_
              refine held_t 9 hHeld ?_
              refine held_t 10 hHeld ?_
              refine held_t 11 hHeld ?_
              refine held_t 12 hHeld ?_
              refine held_t 13 hHeld ?_
              refine held_t 14 hHeld ?_
              refine held_t 15 hHeld ?_
              refine held_t 16 hHeld ?_
              refine held_t 17 hHeld ?_
              refine held_t 18 hHeld ?_
              refine held_t 19 hHeld ?_
              refine held_t 20 hHeld ?_
              refine held_t 21 hHeld ?_
              refine wpAnyH_done (by kernel_rfl) ?_ _
              clear hHeld
              have my1 := (b2'.cell (p := ⟨wr.heap.size, 1, none⟩) zy).trans y1
              have me1 := (b2'.cell (p := ⟨w.heap.size, 1, none⟩) zx).trans e1
              have me2 := (b2'.cell (p := ⟨w.heap.size, 2, none⟩) zx).trans e2
              have my := Nat.lt_of_lt_of_le zy b2'.size
              have mx := Nat.lt_of_lt_of_le zx b2'.size
              have RZ2 := RZ.below b2'
              go_wp2_with fail
              refine wp_region_held_drew (S := fun w' => w'.cell? ⟨wr.heap.size, 1, none⟩ = some (.slice av zs.length cv) /\ w'.cell? ⟨w.heap.size, 1, none⟩ = some (.int .i64 x.n) /\ w'.cell? ⟨w.heap.size, 2, none⟩ = some (.int .i64 x.s)) (by kernel_rfl) ?_ (fun hHeld => ?_)
              . exact ⟨my1, me1, me2⟩
              refine held_t 0 hHeld ?_
              refine held_t 1 hHeld ?_
              refine held_t 2 hHeld ?_
              refine held_t 3 hHeld ?_
              refine held_t 4 hHeld ?_
              refine held_one (i := 5) (by kernel_rfl) rfl (by kernel_rfl) (fun K hK => ?_)
              go_simp
              refine (perStripe_any _ x.n x.s g1 g2).mono ?_
              rintro e w3 ⟨rfl, b3⟩
              have b3' : Below w2.heap.size w2 w3 := (Below.refl w2.heap.size w2).drew.trans b3
              clear b3
              go_wp2_with fail
              clear hHeld
              refine hK.out _ _ ?_ (fun hHeld => ?_)
              . exact ⟨(b3'.cell (p := ⟨wr.heap.size, 1, none⟩) my).trans my1, (b3'.cell (p := ⟨w.heap.size, 1, none⟩) mx).trans me1, (b3'.cell (p := ⟨w.heap.size, 2, none⟩) mx).trans me2⟩
              clear hK K
              refine held_t 6 hHeld ?_
              refine held_t 7 hHeld ?_
              refine held_t 8 hHeld ?_
              refine held_t 9 hHeld ?_
              refine held_one (i := 10) (by kernel_rfl) rfl (by kernel_rfl) (fun K hK => ?_)
              go_simp
              refine (implSecOk_any _ _ _ _ zs rfl (ints_rd (RZ2.below b3')).1 hwz).mono ?_
              rintro e w4 ⟨rfl, s4⟩
              have b4' : Below w2.heap.size w2 w4 := Below.andThen b3' (s4.below _)
              clear s4
              rw [hZ]
              go_wp2_with fail
              clear hHeld
              refine hK.out _ _ ?_ (fun hHeld => ?_)
              . exact ⟨(b4'.cell (p := ⟨wr.heap.size, 1, none⟩) my).trans my1, (b4'.cell (p := ⟨w.heap.size, 1, none⟩) mx).trans me1, (b4'.cell (p := ⟨w.heap.size, 2, none⟩) mx).trans me2⟩
              clear hK K
              refine held_t 11 hHeld ?_
              refine held_t 12 hHeld ?_
              refine wpAnyH_done (by kernel_rfl) ?_ _
              clear hHeld
              have HB := hidden (hA.trans ((B1.trans ((Below.andThen b2' b4').mono B1.size)).mono hA.size))
              have HE := hidden (entsB_no (x := x) HDJ.out (entAt_3 HZ.out))
              go_wp2
              go_ret
              exact ⟨ret_bool HE.out.symm, HB.out⟩
            . have HZ := hidden (HSA.out.symm.trans hZ)
              go_wp2_with fail
              generalize wr.alloc (.cells #[.int .i64 y, .slice av zs.length cv] 86) = w1 at X1 Y1 RZ B1 y0 y1 e1 e2 e9 zy zx zb HQ qc ⊢
              refine wp_region_held_drew (S := fun w' => w'.cell? ⟨wr.heap.size, 0, none⟩ = some (.int .i64 y) /\ w'.cell? ⟨w.heap.size, 1, none⟩ = some (.int .i64 x.n) /\ w'.cell? ⟨w.heap.size, 2, none⟩ = some (.int .i64 x.s) /\ w'.cell? ⟨w.heap.size, 9, none⟩ = some (.slice (some ⟨b, off, none⟩) nd cd) /\ w'.cell? ⟨b, off + p * 2, none⟩ = some (.int .i64 s)) (by kernel_rfl) ?_ (fun hHeld => ?_)
              . exact ⟨y0, e1, e2, e9, qc⟩
              refine held_t 0 hHeld ?_
              refine held_t 1 hHeld ?_
              refine held_t 2 hHeld ?_
              refine held_t 3 hHeld ?_
              refine held_one (i := 4) (by kernel_rfl) rfl (by kernel_rfl) (fun K hK => ?_)
              go_simp
              refine (hasStripe_any _ x.n x.s y).mono ?_
              rintro e w2 ⟨rfl, b2⟩
              have b2' : Below w1.heap.size w1 w2 := (Below.refl w1.heap.size w1).drew.trans b2
              clear b2
              rw [hI]
              go_wp2_with fail
              clear hHeld
              refine hK.out _ _ ?_ (fun hHeld => ?_)
              . exact ⟨(b2'.cell (p := ⟨wr.heap.size, 0, none⟩) zy).trans y0, (b2'.cell (p := ⟨w.heap.size, 1, none⟩) zx).trans e1, (b2'.cell (p := ⟨w.heap.size, 2, none⟩) zx).trans e2, (b2'.cell (p := ⟨w.heap.size, 9, none⟩) zx).trans e9, (b2'.cell (p := ⟨b, off + p * 2, none⟩) zb).trans qc⟩
              clear hK K
              refine held_t 5 hHeld ?_
              refine held_t 6 hHeld ?_
              refine held_t 7 hHeld ?_
              refine held_t 8 hHeld ?_
              refine held_t 9 hHeld ?_
              refine held_t 10 hHeld ?_
              refine held_t 11 hHeld ?_
              refine held_t 12 hHeld ?_
              refine held_t 13 hHeld ?_
              refine held_t 14 hHeld ?_
              refine held_t 15 hHeld ?_
              refine held_t 16 hHeld ?_
              refine held_t 17 hHeld ?_
              refine held_t 18 hHeld ?_
              refine held_t 19 hHeld ?_
              refine held_t 20 hHeld ?_
              refine held_t 21 hHeld ?_
              refine wpAnyH_done (by kernel_rfl) ?_ _
              clear hHeld
              have my1 := (b2'.cell (p := ⟨wr.heap.size, 1, none⟩) zy).trans y1
              have me1 := (b2'.cell (p := ⟨w.heap.size, 1, none⟩) zx).trans e1
              have me2 := (b2'.cell (p := ⟨w.heap.size, 2, none⟩) zx).trans e2
              have my := Nat.lt_of_lt_of_le zy b2'.size
              have mx := Nat.lt_of_lt_of_le zx b2'.size
              have RZ2 := RZ.below b2'
              go_wp2_with fail
              refine wp_region_held_drew (S := fun w' => w'.cell? ⟨wr.heap.size, 1, none⟩ = some (.slice av zs.length cv) /\ w'.cell? ⟨w.heap.size, 1, none⟩ = some (.int .i64 x.n) /\ w'.cell? ⟨w.heap.size, 2, none⟩ = some (.int .i64 x.s)) (by kernel_rfl) ?_ (fun hHeld => ?_)
              . exact ⟨my1, me1, me2⟩
              refine held_t 0 hHeld ?_
              refine held_t 1 hHeld ?_
              refine held_t 2 hHeld ?_
              refine held_t 3 hHeld ?_
              refine held_t 4 hHeld ?_
              refine held_one (i := 5) (by kernel_rfl) rfl (by kernel_rfl) (fun K hK => ?_)
              go_simp
              refine (perStripe_any _ x.n x.s g1 g2).mono ?_
              rintro e w3 ⟨rfl, b3⟩
              have b3' : Below w2.heap.size w2 w3 := (Below.refl w2.heap.size w2).drew.trans b3
              clear b3
              go_wp2_with fail
              clear hHeld
              refine hK.out _ _ ?_ (fun hHeld => ?_)
              . exact ⟨(b3'.cell (p := ⟨wr.heap.size, 1, none⟩) my).trans my1, (b3'.cell (p := ⟨w.heap.size, 1, none⟩) mx).trans me1, (b3'.cell (p := ⟨w.heap.size, 2, none⟩) mx).trans me2⟩
              clear hK K
              refine held_t 6 hHeld ?_
              refine held_t 7 hHeld ?_
              refine held_t 8 hHeld ?_
              refine held_t 9 hHeld ?_
              refine held_one (i := 10) (by kernel_rfl) rfl (by kernel_rfl) (fun K hK => ?_)
              go_simp
              refine (implSecOk_any _ _ _ _ zs rfl (ints_rd (RZ2.below b3')).1 hwz).mono ?_
              rintro e w4 ⟨rfl, s4⟩
              have b4' : Below w2.heap.size w2 w4 := Below.andThen b3' (s4.below _)
              clear s4
              rw [hZ]
              go_wp2_with fail
              clear hHeld
              refine hK.out _ _ ?_ (fun hHeld => ?_)
              . exact ⟨(b4'.cell (p := ⟨wr.heap.size, 1, none⟩) my).trans my1, (b4'.cell (p := ⟨w.heap.size, 1, none⟩) mx).trans me1, (b4'.cell (p := ⟨w.heap.size, 2, none⟩) mx).trans me2⟩
              clear hK K
              refine held_t 11 hHeld ?_
              refine held_t 12 hHeld ?_
              refine wpAnyH_done (by kernel_rfl) ?_ _
              clear hHeld
              have HB := hidden (B1.trans ((Below.andThen b2' b4').mono B1.size))
              have hat : entAt x ds (p + 1) (y, zs) = true := (entAt_5 HI.out HL.out HZ.out HPQ.out).trans (by simpa using hlt)
              go_wp2
              go_roundw
              case rel => exact ⟨p + 1 + 1, by omega, by go_num, fun q d hq hm' => by
               rcases Nat.lt_or_ge q (p + 1) with h | h
               . exact hall q d h hm'
               . obtain rfl : q = p + 1 := by omega
                 rw [HDJ.out] at hm'
                 cases hm'
                 exact hat, HB.out⟩
              case measure => simp [intOf]; omega
          . have hL1 : ((zs.length : Int) == x.n - 1) = false := by simpa using hL
            have hL2 : ((zs.length : Int) != x.n - 1) = true := by simpa using hL
            have HL := hidden hL
            clear hL
            go_wp2_with fail
            generalize wr.alloc (.cells #[.int .i64 y, .slice av zs.length cv] 86) = w1 at X1 Y1 RZ B1 y0 y1 e1 e2 e9 zy zx zb HQ qc ⊢
            refine wp_region_held_drew (S := fun w' => w'.cell? ⟨wr.heap.size, 0, none⟩ = some (.int .i64 y) /\ w'.cell? ⟨w.heap.size, 1, none⟩ = some (.int .i64 x.n) /\ w'.cell? ⟨w.heap.size, 2, none⟩ = some (.int .i64 x.s) /\ w'.cell? ⟨w.heap.size, 9, none⟩ = some (.slice (some ⟨b, off, none⟩) nd cd) /\ w'.cell? ⟨b, off + p * 2, none⟩ = some (.int .i64 s)) (by kernel_rfl) ?_ (fun hHeld => ?_)
            . exact ⟨y0, e1, e2, e9, qc⟩
            refine held_t 0 hHeld ?_
            refine held_t 1 hHeld ?_
            refine held_t 2 hHeld ?_
            refine held_t 3 hHeld ?_
            refine held_one (i := 4) (by kernel_rfl) rfl (by kernel_rfl) (fun K hK => ?_)
            go_simp
            refine (hasStripe_any _ x.n x.s y).mono ?_
            rintro e w2 ⟨rfl, b2⟩
            have b2' : Below w1.heap.size w1 w2 := (Below.refl w1.heap.size w1).drew.trans b2
            clear b2
            rw [hI]
            go_wp2_with fail
            clear hHeld
            refine hK.out _ _ ?_ (fun hHeld => ?_)
            . exact ⟨(b2'.cell (p := ⟨wr.heap.size, 0, none⟩) zy).trans y0, (b2'.cell (p := ⟨w.heap.size, 1, none⟩) zx).trans e1, (b2'.cell (p := ⟨w.heap.size, 2, none⟩) zx).trans e2, (b2'.cell (p := ⟨w.heap.size, 9, none⟩) zx).trans e9, (b2'.cell (p := ⟨b, off + p * 2, none⟩) zb).trans qc⟩
            clear hK K
            refine held_t 5 hHeld ?_
            refine held_t 6 hHeld ?_
            refine held_t 7 hHeld ?_
            refine held_t 8 hHeld ?_
            refine held_t 9 hHeld ?_
            refine held_t 10 hHeld ?_
            refine held_t 11 hHeld ?_
            refine held_t 12 hHeld ?_
            refine held_t 13 hHeld ?_
            refine held_t 14 hHeld ?_
            refine held_t 15 hHeld ?_
            refine held_t 16 hHeld ?_
            refine held_t 17 hHeld ?_
            refine held_t 18 hHeld ?_
            refine held_t 19 hHeld ?_
            refine held_t 20 hHeld ?_
            refine held_t 21 hHeld ?_
            refine wpAnyH_done (by kernel_rfl) ?_ _
            clear hHeld
            have my1 := (b2'.cell (p := ⟨wr.heap.size, 1, none⟩) zy).trans y1
            have me1 := (b2'.cell (p := ⟨w.heap.size, 1, none⟩) zx).trans e1
            have me2 := (b2'.cell (p := ⟨w.heap.size, 2, none⟩) zx).trans e2
            have my := Nat.lt_of_lt_of_le zy b2'.size
            have mx := Nat.lt_of_lt_of_le zx b2'.size
            have RZ2 := RZ.below b2'
            go_wp2_with fail
            refine wp_region_held_drew (S := fun w' => w'.cell? ⟨wr.heap.size, 1, none⟩ = some (.slice av zs.length cv) /\ w'.cell? ⟨w.heap.size, 1, none⟩ = some (.int .i64 x.n) /\ w'.cell? ⟨w.heap.size, 2, none⟩ = some (.int .i64 x.s)) (by kernel_rfl) ?_ (fun hHeld => ?_)
            . exact ⟨my1, me1, me2⟩
            refine held_t 0 hHeld ?_
            refine held_t 1 hHeld ?_
            refine held_t 2 hHeld ?_
            refine held_t 3 hHeld ?_
            refine held_t 4 hHeld ?_
            refine held_one (i := 5) (by kernel_rfl) rfl (by kernel_rfl) (fun K hK => ?_)
            go_simp
            refine (perStripe_any _ x.n x.s g1 g2).mono ?_
            rintro e w3 ⟨rfl, b3⟩
            have b3' : Below w2.heap.size w2 w3 := (Below.refl w2.heap.size w2).drew.trans b3
            clear b3
            go_wp2_with fail
            clear hHeld
            refine hK.out _ _ ?_ (fun hHeld => ?_)
            . exact ⟨(b3'.cell (p := ⟨wr.heap.size, 1, none⟩) my).trans my1, (b3'.cell (p := ⟨w.heap.size, 1, none⟩) mx).trans me1, (b3'.cell (p := ⟨w.heap.size, 2, none⟩) mx).trans me2⟩
            clear hK K
            refine held_t 6 hHeld ?_
            refine held_t 7 hHeld ?_
            refine held_p 8 hHeld ?_
            refine held_p 9 hHeld ?_
            refine held_none (i := 10) (by kernel_rfl) rfl (by kernel_rfl) hHeld ?_
            simp only [Act.put, List.setIfInBounds_toArray, List.set_cons_zero, List.set_cons_succ]
            refine held_p 11 hHeld ?_
            refine held_t 12 hHeld ?_
            refine wpAnyH_done (by kernel_rfl) ?_ _
            clear hHeld
            have HB := hidden (hA.trans ((B1.trans ((Below.andThen b2' b3').mono B1.size)).mono hA.size))
            have HE := hidden (entsB_no (x := x) HDJ.out (entAt_2 HL.out))
            go_wp2
            go_ret
            exact ⟨ret_bool HE.out.symm, HB.out⟩
        . have hge : y <= s := by omega
          go_wp2_with fail
          generalize wr.alloc (.cells #[.int .i64 y, .slice av zs.length cv] 86) = w1 at X1 Y1 RZ B1 y0 y1 e1 e2 e9 zy zx zb HQ qc ⊢
          refine wp_region_held_drew (S := fun w' => w'.cell? ⟨wr.heap.size, 0, none⟩ = some (.int .i64 y) /\ w'.cell? ⟨w.heap.size, 1, none⟩ = some (.int .i64 x.n) /\ w'.cell? ⟨w.heap.size, 2, none⟩ = some (.int .i64 x.s) /\ w'.cell? ⟨w.heap.size, 9, none⟩ = some (.slice (some ⟨b, off, none⟩) nd cd) /\ w'.cell? ⟨b, off + p * 2, none⟩ = some (.int .i64 s)) (by kernel_rfl) ?_ (fun hHeld => ?_)
          . exact ⟨y0, e1, e2, e9, qc⟩
          refine held_t 0 hHeld ?_
          refine held_t 1 hHeld ?_
          refine held_t 2 hHeld ?_
          refine held_t 3 hHeld ?_
          refine held_one (i := 4) (by kernel_rfl) rfl (by kernel_rfl) (fun K hK => ?_)
          go_simp
          refine (hasStripe_any _ x.n x.s y).mono ?_
          rintro e w2 ⟨rfl, b2⟩
          have b2' : Below w1.heap.size w1 w2 := (Below.refl w1.heap.size w1).drew.trans b2
          clear b2
          rw [hI]
          go_wp2_with fail
          clear hHeld
          refine hK.out _ _ ?_ (fun hHeld => ?_)
          . exact ⟨(b2'.cell (p := ⟨wr.heap.size, 0, none⟩) zy).trans y0, (b2'.cell (p := ⟨w.heap.size, 1, none⟩) zx).trans e1, (b2'.cell (p := ⟨w.heap.size, 2, none⟩) zx).trans e2, (b2'.cell (p := ⟨w.heap.size, 9, none⟩) zx).trans e9, (b2'.cell (p := ⟨b, off + p * 2, none⟩) zb).trans qc⟩
          clear hK K
          refine held_t 5 hHeld ?_
          refine held_t 6 hHeld ?_
          refine held_t 7 hHeld ?_
          refine held_t 8 hHeld ?_
          refine held_t 9 hHeld ?_
          refine held_t 10 hHeld ?_
          refine held_t 11 hHeld ?_
          refine held_t 12 hHeld ?_
          refine held_t 13 hHeld ?_
          refine held_t 14 hHeld ?_
          refine held_t 15 hHeld ?_
          refine held_t 16 hHeld ?_
          refine held_t 17 hHeld ?_
          refine held_t 18 hHeld ?_
          refine held_t 19 hHeld ?_
          refine held_t 20 hHeld ?_
          refine held_t 21 hHeld ?_
          refine wpAnyH_done (by kernel_rfl) ?_ _
          clear hHeld
          have HB := hidden (hA.trans ((B1.trans (b2'.mono B1.size)).mono hA.size))
          have HE := hidden (entsB_no (x := x) HDJ.out (entAt_6 HPQ.out hge))
          go_wp2
          go_ret
          exact ⟨ret_bool HE.out.symm, HB.out⟩
  . have ej : j = nd := by omega
    subst ej
    have hAll : entsB x ds = true := allIx_iff.2 (fun q d hq => hall q d (by have := (List.getElem?_eq_some_iff.1 hq).1; omega) hq)
    have HB := hidden (hA.trans (hb.mono hA.size))
    go_wp2
    go_ret
    exact ⟨ret_bool hAll.symm, HB.out⟩

theorem recsOk_any (w : World) (x : ArrN) (am ad : Option Addr) (nm cm nd cd : Nat) :
 Calls Tryz.prog 128 #[.agg #[.int .i64 x.id, .int .i64 x.n, .int .i64 x.s, .slice am nm cm, .int .i64 x.lost, .int .i64 x.built, .int .i64 x.seq, .int .i64 x.tail, .int .i64 x.gen, .slice ad nd cd, .int .i64 x.fuse, .bool x.down, .bool x.broken]] w fun e w' => e = .returned (.bool (recB6 x)) /\ Below w.heap.size w w' := by
 have hA := new_below w (.cells #[.int .i64 x.id, .int .i64 x.n, .int .i64 x.s, .slice am nm cm, .int .i64 x.lost, .int .i64 x.built, .int .i64 x.seq, .int .i64 x.tail, .int .i64 x.gen, .slice ad nd cd, .int .i64 x.fuse, .bool x.down, .bool x.broken] 29)
 have X := Box.new w 29 #[.int .i64 x.id, .int .i64 x.n, .int .i64 x.s, .slice am nm cm, .int .i64 x.lost, .int .i64 x.built, .int .i64 x.seq, .int .i64 x.tail, .int .i64 x.gen, .slice ad nd cd, .int .i64 x.fuse, .bool x.down, .bool x.broken]
 obtain ⟨k0, k1, k2, k3, k4, k5, k6, k7, k8, k9, k10, k11, k12⟩ := X.cells13
 clear k0 k1 k2 k3 k4 k5 k8 k9 k10 k11 k12 X
 go_enter Tryz.func128, Tryz.ntmps128
 go_wp2_with fail
 refine (within_any _ _ _ _).mono ?_
 rintro e wq ⟨rfl, hq⟩
 obtain rfl := hq.symm
 cases hs : inB x.seq 0 60000
 . have HF : Hid (recB6 x = false) := by unfold Hid recB6; rw [hs]; rfl
   go_wp2
   go_ret
   exact ⟨ret_bool HF.out.symm, hA⟩
 . go_wp2_with fail
   refine (within_any _ _ _ _).mono ?_
   rintro e wq ⟨rfl, hq⟩
   obtain rfl := hq.symm
   cases ht : inB x.tail 0 60000
   . have HF : Hid (recB6 x = false) := by unfold Hid recB6; rw [hs, ht]; rfl
     go_wp2
     go_ret
     exact ⟨ret_bool HF.out.symm, hA⟩
   . have HF : Hid (recB6 x = inB (x.seq - x.tail) 0 4) := by unfold Hid recB6; rw [hs, ht]; rfl
     obtain ⟨s1, s2⟩ := inB_iff.1 hs
     obtain ⟨t1, t2⟩ := inB_iff.1 ht
     have hw : IntKind.i64.wrap (x.seq - x.tail) = x.seq - x.tail := IntWalk.i64_in _ (by omega)
     go_wp2_with fail
     refine (within_any _ _ _ _).mono ?_
     rintro e wq ⟨rfl, hq⟩
     obtain rfl := hq.symm
     cases hd : inB (x.seq - x.tail) 0 4
     . go_wp2
       go_ret
       exact ⟨ret_bool (by rw [HF.out, hd]), hA⟩
     . go_wp2
       go_ret
       exact ⟨ret_bool (by rw [HF.out, hd]), hA⟩

theorem implArrOk_any (w : World) (E F G : TypeId) (x : ArrN) (am ad : Option Addr) (nm cm nd cd : Nat) (ms : List MemD) (ds : List (Int × List Int)) (h0 : (tMemS E F).Rd w [.slice am nm cm] ms) (h1 : (tWrS G).Rd w [.slice ad nd cd] ds) (hw : wtArr ms ds <= 2097152) :
 Calls Tryz.prog 61 #[.agg #[.int .i64 x.id, .int .i64 x.n, .int .i64 x.s, .slice am nm cm, .int .i64 x.lost, .int .i64 x.built, .int .i64 x.seq, .int .i64 x.tail, .int .i64 x.gen, .slice ad nd cd, .int .i64 x.fuse, .bool x.down, .bool x.broken]] w fun e w' => e = .returned (.bool (arrB x ms ds)) /\ Below w.heap.size w w' := by
 have hwm : wtMemS ms <= 2097152 := by unfold wtArr at hw; omega
 have hwd : wtWrS ds <= 2097152 := by unfold wtArr at hw; omega
 have hA := new_below w (.cells #[.int .i64 x.id, .int .i64 x.n, .int .i64 x.s, .slice am nm cm, .int .i64 x.lost, .int .i64 x.built, .int .i64 x.seq, .int .i64 x.tail, .int .i64 x.gen, .slice ad nd cd, .int .i64 x.fuse, .bool x.down, .bool x.broken] 29)
 have X := Box.new w 29 #[.int .i64 x.id, .int .i64 x.n, .int .i64 x.s, .slice am nm cm, .int .i64 x.lost, .int .i64 x.built, .int .i64 x.seq, .int .i64 x.tail, .int .i64 x.gen, .slice ad nd cd, .int .i64 x.fuse, .bool x.down, .bool x.broken]
 obtain ⟨k0, k1, k2, k3, k4, k5, k6, k7, k8, k9, k10, k11, k12⟩ := X.cells13
 have zA := X.lt
 have r0 := h0.below hA
 have r1 := h1.below hA
 go_enter Tryz.func61, Tryz.ntmps61
 go_wp2_with fail
 generalize w.alloc (.cells #[.int .i64 x.id, .int .i64 x.n, .int .i64 x.s, .slice am nm cm, .int .i64 x.lost, .int .i64 x.built, .int .i64 x.seq, .int .i64 x.tail, .int .i64 x.gen, .slice ad nd cd, .int .i64 x.fuse, .bool x.down, .bool x.broken] 29) = W at hA X zA r0 r1 k0 k1 k2 k3 k4 k5 k6 k7 k8 k9 k10 k11 k12 ⊢
 refine (implGeoOk_any _ _ _).mono ?_
 rintro e w1 ⟨rfl, b1⟩
 have X1 := X.below b1 X.lt
 have B1 := Below.andThen hA b1
 have q1 := r0.below b1
 have t1 := r1.below b1
 clear k0 k1 k2 k3 k4 k5 k6 k7 k8 k9 k10 k11 k12 b1 X hA r0 r1
 obtain ⟨k0, k1, k2, k3, k4, k5, k6, k7, k8, k9, k10, k11, k12⟩ := X1.cells13
 cases hg : geoB x.n x.s
 . have HF : Hid (arrB x ms ds = false) := by
    unfold Hid
    unfold arrB; rw [hg]; rfl
   go_wp2
   go_ret
   exact ⟨ret_bool HF.out.symm, B1⟩
 . have HE := hidden (arr_same6 (ms := ms) (ds := ds) hg)
   obtain ⟨g1, g2, g3, g4⟩ := geoB_iff.1 hg
   go_wp2_with fail
   refine (within_any _ _ _ _).mono ?_
   rintro e wq ⟨rfl, hq⟩
   obtain rfl := hq.symm
   cases hid : inB x.id 1 60000
   . have HF : Hid (arrB x ms ds = false) := by
      unfold Hid
      rw [HE.out, hid]; rfl
     go_wp2
     go_ret
     exact ⟨ret_bool HF.out.symm, B1⟩
   . go_wp2_with fail
     refine (lostOk_any _ x.n x.s x.lost x.built ⟨g1, g2⟩).mono ?_
     rintro e w2 ⟨rfl, b2⟩
     have X2 := X1.below b2 X1.lt
     have B2 := Below.andThen B1 b2
     have q2 := q1.below b2
     have t2 := t1.below b2
     clear k0 k1 k2 k3 k4 k5 k6 k7 k8 k9 k10 k11 k12 b2 X1 B1 q1 t1
     obtain ⟨k0, k1, k2, k3, k4, k5, k6, k7, k8, k9, k10, k11, k12⟩ := X2.cells13
     cases hlo : lostB x.n x.s x.lost x.built
     . have HF : Hid (arrB x ms ds = false) := by
        unfold Hid
        rw [HE.out, hid, hlo]; rfl
       go_wp2
       go_ret
       exact ⟨ret_bool HF.out.symm, B2⟩
     . skip
       go_wp2_with fail
       refine (within_any _ _ _ _).mono ?_
       rintro e wq ⟨rfl, hq⟩
       obtain rfl := hq.symm
       cases hge : inB x.gen 0 60000
       . have HF : Hid (arrB x ms ds = false) := by
          unfold Hid
          rw [HE.out, hid, hlo, hge]; rfl
         go_wp2
         go_ret
         exact ⟨ret_bool HF.out.symm, B2⟩
       . skip
         go_wp2_with fail
         refine (within_any _ _ _ _).mono ?_
         rintro e wq ⟨rfl, hq⟩
         obtain rfl := hq.symm
         cases hfu : inB x.fuse (-1) 1000
         . have HF : Hid (arrB x ms ds = false) := by
            unfold Hid
            rw [HE.out, hid, hlo, hge, hfu]; rfl
           go_wp2
           go_ret
           exact ⟨ret_bool HF.out.symm, B2⟩
         . go_wp2_with fail
           refine (memsOk_any _ E F x _ _ _ _ _ _ ms q2 hwm hg).mono ?_
           rintro e w3 ⟨rfl, b3⟩
           have X3 := X2.below b3 X2.lt
           have B3 := Below.andThen B2 b3
           have q3 := q2.below b3
           have t3 := t2.below b3
           clear k0 k1 k2 k3 k4 k5 k6 k7 k8 k9 k10 k11 k12 b3 X2 B2 q2 t2
           obtain ⟨k0, k1, k2, k3, k4, k5, k6, k7, k8, k9, k10, k11, k12⟩ := X3.cells13
           cases hms : memsB x ms
           . have HF : Hid (arrB x ms ds = false) := by
              unfold Hid
              rw [HE.out, hid, hlo, hge, hfu, hms]; rfl
             go_wp2
             go_ret
             exact ⟨ret_bool HF.out.symm, B3⟩
           . go_wp2_with fail
             refine (recsOk_any _ x _ _ _ _ _ _).mono ?_
             rintro e w4 ⟨rfl, b4⟩
             have X4 := X3.below b4 X3.lt
             have B4 := Below.andThen B3 b4
             have q4 := q3.below b4
             have t4 := t3.below b4
             clear k0 k1 k2 k3 k4 k5 k6 k7 k8 k9 k10 k11 k12 b4 X3 B3 q3 t3
             obtain ⟨k0, k1, k2, k3, k4, k5, k6, k7, k8, k9, k10, k11, k12⟩ := X4.cells13
             cases hre : recB6 x
             . have HF : Hid (arrB x ms ds = false) := by
                unfold Hid
                rw [HE.out, hid, hlo, hge, hfu, hms, hre]; rfl
               go_wp2
               go_ret
               exact ⟨ret_bool HF.out.symm, B4⟩
             . have HF : Hid (arrB x ms ds = entsB x ds) := by
                unfold Hid
                rw [HE.out, hid, hlo, hge, hfu, hms, hre]; rfl
               go_wp2_with fail
               refine (dirtyOk_any _ G x _ _ _ _ _ _ ds t4 hwd hg).mono ?_
               rintro e w5 ⟨rfl, b5⟩
               have X5 := X4.below b5 X4.lt
               have B5 := Below.andThen B4 b5
               have q5 := q4.below b5
               have t5 := t4.below b5
               clear k0 k1 k2 k3 k4 k5 k6 k7 k8 k9 k10 k11 k12 b5 X4 B4 q4 t4
               obtain ⟨k0, k1, k2, k3, k4, k5, k6, k7, k8, k9, k10, k11, k12⟩ := X5.cells13
               cases hds : entsB x ds
               . go_wp2
                 go_ret
                 exact ⟨ret_bool (by rw [HF.out, hds]), B5⟩
               . go_wp2
                 go_ret
                 exact ⟨ret_bool (by rw [HF.out, hds]), B5⟩

theorem l8May_any (w : World) (E F G : TypeId) (x : ArrN) (am ad : Option Addr) (nm cm nd cd : Nat) (ms : List MemD) (ds : List (Int × List Int)) (h0 : (tMemS E F).Rd w [.slice am nm cm] ms) (h1 : (tWrS G).Rd w [.slice ad nd cd] ds) (hw : wtArr ms ds <= 2097152) :
 Calls Tryz.prog 84 #[.agg #[.int .i64 x.id, .int .i64 x.n, .int .i64 x.s, .slice am nm cm, .int .i64 x.lost, .int .i64 x.built, .int .i64 x.seq, .int .i64 x.tail, .int .i64 x.gen, .slice ad nd cd, .int .i64 x.fuse, .bool x.down, .bool x.broken]] w fun e w' => e = .returned (.int .i64 (ask8 x ms ds)) /\ Below w.heap.size w w' := by
 have hA := new_below w (.cells #[.int .i64 x.id, .int .i64 x.n, .int .i64 x.s, .slice am nm cm, .int .i64 x.lost, .int .i64 x.built, .int .i64 x.seq, .int .i64 x.tail, .int .i64 x.gen, .slice ad nd cd, .int .i64 x.fuse, .bool x.down, .bool x.broken] 29)
 have X := Box.new w 29 #[.int .i64 x.id, .int .i64 x.n, .int .i64 x.s, .slice am nm cm, .int .i64 x.lost, .int .i64 x.built, .int .i64 x.seq, .int .i64 x.tail, .int .i64 x.gen, .slice ad nd cd, .int .i64 x.fuse, .bool x.down, .bool x.broken]
 have zX := X.lt
 obtain ⟨k0, k1, k2, k3, k4, k5, k6, k7, k8, k9, k10, k11, k12⟩ := X.cells13
 have r0 := h0.below hA
 have r1 := h1.below hA
 have HV : Hid (ask8 x ms ds = if arrB x ms ds = true then (if x.down = true then 6 else 0) else 1) := rfl
 go_enter Tryz.func84, Tryz.ntmps84
 go_wp2_with fail
 generalize w.alloc (.cells #[.int .i64 x.id, .int .i64 x.n, .int .i64 x.s, .slice am nm cm, .int .i64 x.lost, .int .i64 x.built, .int .i64 x.seq, .int .i64 x.tail, .int .i64 x.gen, .slice ad nd cd, .int .i64 x.fuse, .bool x.down, .bool x.broken] 29) = W at hA X zX r0 r1 k0 k1 k2 k3 k4 k5 k6 k7 k8 k9 k10 k11 k12 ⊢
 refine (specArrOk_any _ E F G x _ _ _ _ _ _ ms ds r0 r1 hw).mono ?_
 rintro e w1 ⟨rfl, b1⟩
 have X1 := X.below b1 zX
 have HB := hidden (Below.andThen hA b1)
 clear k0 k1 k2 k3 k4 k5 k6 k7 k8 k9 k10 k11 k12 X r0 r1 b1 hA
 obtain ⟨k0, k1, k2, k3, k4, k5, k6, k7, k8, k9, k10, k11, k12⟩ := X1.cells13
 clear X1
 cases ha : arrB x ms ds
 . have HR : Hid (1 = ask8 x ms ds) := by unfold Hid; rw [HV.out, if_neg (by simp [ha])]
   clear ha
   go_wp2
   go_ret
   exact ⟨ret_int HR.out, HB.out⟩
 . cases hd : x.down
   . have HR : Hid (0 = ask8 x ms ds) := by unfold Hid; rw [HV.out, if_pos ha, if_neg (by simp [hd])]
     rw [hd] at k11
     clear ha hd
     go_wp2
     go_ret
     exact ⟨ret_int HR.out, HB.out⟩
   . have HR : Hid (6 = ask8 x ms ds) := by unfold Hid; rw [HV.out, if_pos ha, if_pos hd]
     rw [hd] at k11
     clear ha hd
     go_wp2
     go_ret
     exact ⟨ret_int HR.out, HB.out⟩

theorem askCode_any (w : World) (E F G : TypeId) (x : ArrN) (am ad : Option Addr) (nm cm nd cd : Nat) (ms : List MemD) (ds : List (Int × List Int)) (h0 : (tMemS E F).Rd w [.slice am nm cm] ms) (h1 : (tWrS G).Rd w [.slice ad nd cd] ds) (hw : wtArr ms ds <= 2097152) :
 Calls Tryz.prog 87 #[.agg #[.int .i64 x.id, .int .i64 x.n, .int .i64 x.s, .slice am nm cm, .int .i64 x.lost, .int .i64 x.built, .int .i64 x.seq, .int .i64 x.tail, .int .i64 x.gen, .slice ad nd cd, .int .i64 x.fuse, .bool x.down, .bool x.broken]] w fun e w' => e = .returned (.int .i64 (ask8 x ms ds)) /\ Below w.heap.size w w' := by
 have hA := new_below w (.cells #[.int .i64 x.id, .int .i64 x.n, .int .i64 x.s, .slice am nm cm, .int .i64 x.lost, .int .i64 x.built, .int .i64 x.seq, .int .i64 x.tail, .int .i64 x.gen, .slice ad nd cd, .int .i64 x.fuse, .bool x.down, .bool x.broken] 29)
 have X := Box.new w 29 #[.int .i64 x.id, .int .i64 x.n, .int .i64 x.s, .slice am nm cm, .int .i64 x.lost, .int .i64 x.built, .int .i64 x.seq, .int .i64 x.tail, .int .i64 x.gen, .slice ad nd cd, .int .i64 x.fuse, .bool x.down, .bool x.broken]
 have zX := X.lt
 obtain ⟨k0, k1, k2, k3, k4, k5, k6, k7, k8, k9, k10, k11, k12⟩ := X.cells13
 have r0 := h0.below hA
 have r1 := h1.below hA
 have HV : Hid (ask8 x ms ds = if arrB x ms ds = true then (if x.down = true then 6 else 0) else 1) := rfl
 go_enter Tryz.func87, Tryz.ntmps87
 go_wp2_with fail
 generalize w.alloc (.cells #[.int .i64 x.id, .int .i64 x.n, .int .i64 x.s, .slice am nm cm, .int .i64 x.lost, .int .i64 x.built, .int .i64 x.seq, .int .i64 x.tail, .int .i64 x.gen, .slice ad nd cd, .int .i64 x.fuse, .bool x.down, .bool x.broken] 29) = W at hA X zX r0 r1 k0 k1 k2 k3 k4 k5 k6 k7 k8 k9 k10 k11 k12 ⊢
 refine (implArrOk_any _ E F G x _ _ _ _ _ _ ms ds r0 r1 hw).mono ?_
 rintro e w1 ⟨rfl, b1⟩
 have X1 := X.below b1 zX
 have HB := hidden (Below.andThen hA b1)
 clear k0 k1 k2 k3 k4 k5 k6 k7 k8 k9 k10 k11 k12 X r0 r1 b1 hA
 obtain ⟨k0, k1, k2, k3, k4, k5, k6, k7, k8, k9, k10, k11, k12⟩ := X1.cells13
 clear X1
 cases ha : arrB x ms ds
 . have HR : Hid (1 = ask8 x ms ds) := by unfold Hid; rw [HV.out, if_neg (by simp [ha])]
   clear ha
   go_wp2
   go_ret
   exact ⟨ret_int HR.out, HB.out⟩
 . cases hd : x.down
   . have HR : Hid (0 = ask8 x ms ds) := by unfold Hid; rw [HV.out, if_pos ha, if_neg (by simp [hd])]
     rw [hd] at k11
     clear ha hd
     go_wp2
     go_ret
     exact ⟨ret_int HR.out, HB.out⟩
   . have HR : Hid (6 = ask8 x ms ds) := by unfold Hid; rw [HV.out, if_pos ha, if_pos hd]
     rw [hd] at k11
     clear ha hd
     go_wp2
     go_ret
     exact ⟨ret_int HR.out, HB.out⟩

theorem stripeCode_any (w : World) (E F G : TypeId) (x : ArrN) (am ad : Option Addr) (nm cm nd cd : Nat) (ms : List MemD) (ds : List (Int × List Int)) (s : Int) (h0 : (tMemS E F).Rd w [.slice am nm cm] ms) (h1 : (tWrS G).Rd w [.slice ad nd cd] ds) (hw : wtArr ms ds <= 2097152) :
 Calls Tryz.prog 71 #[.agg #[.int .i64 x.id, .int .i64 x.n, .int .i64 x.s, .slice am nm cm, .int .i64 x.lost, .int .i64 x.built, .int .i64 x.seq, .int .i64 x.tail, .int .i64 x.gen, .slice ad nd cd, .int .i64 x.fuse, .bool x.down, .bool x.broken], .int .i64 s] w fun e w' => e = .returned (.int .i64 (scode8 x ms ds s)) /\ Below w.heap.size w w' := by
 have hA := new_below w (.cells #[.int .i64 x.id, .int .i64 x.n, .int .i64 x.s, .slice am nm cm, .int .i64 x.lost, .int .i64 x.built, .int .i64 x.seq, .int .i64 x.tail, .int .i64 x.gen, .slice ad nd cd, .int .i64 x.fuse, .bool x.down, .bool x.broken] 29)
 have X := Box.new w 29 #[.int .i64 x.id, .int .i64 x.n, .int .i64 x.s, .slice am nm cm, .int .i64 x.lost, .int .i64 x.built, .int .i64 x.seq, .int .i64 x.tail, .int .i64 x.gen, .slice ad nd cd, .int .i64 x.fuse, .bool x.down, .bool x.broken]
 have zX := X.lt
 obtain ⟨k0, k1, k2, k3, k4, k5, k6, k7, k8, k9, k10, k11, k12⟩ := X.cells13
 have r0 := h0.below hA
 have r1 := h1.below hA
 have HV : Hid (scode8 x ms ds s = if ask8 x ms ds = 0 then (if stripeB x.n x.s s = true then 0 else 2) else ask8 x ms ds) := rfl
 go_enter Tryz.func71, Tryz.ntmps71
 go_wp2_with fail
 generalize w.alloc (.cells #[.int .i64 x.id, .int .i64 x.n, .int .i64 x.s, .slice am nm cm, .int .i64 x.lost, .int .i64 x.built, .int .i64 x.seq, .int .i64 x.tail, .int .i64 x.gen, .slice ad nd cd, .int .i64 x.fuse, .bool x.down, .bool x.broken] 29) = W at hA X zX r0 r1 k0 k1 k2 k3 k4 k5 k6 k7 k8 k9 k10 k11 k12 ⊢
 refine (askCode_any _ E F G x _ _ _ _ _ _ ms ds r0 r1 hw).mono ?_
 rintro e w1 ⟨rfl, b1⟩
 have X1 := X.below b1 zX
 have zX1 := X1.lt
 have HB := hidden (Below.andThen hA b1)
 clear k0 k1 k2 k3 k4 k5 k6 k7 k8 k9 k10 k11 k12 X r0 r1 b1 hA
 obtain ⟨k0, k1, k2, k3, k4, k5, k6, k7, k8, k9, k10, k11, k12⟩ := X1.cells13
 clear X1
 generalize ask8 x ms ds = q at HV ⊢
 by_cases hq : q = 0
 . subst hq
   have HV2 : Hid (scode8 x ms ds s = if stripeB x.n x.s s = true then 0 else 2) := by unfold Hid; rw [HV.out, if_pos rfl]
   clear HV
   go_wp2_with fail
   refine (hasStripe_any _ x.n x.s s).mono ?_
   rintro e w2 ⟨rfl, b2⟩
   have HB2 := hidden (Below.andThen HB.out b2)
   clear k0 k1 k2 k3 k4 k5 k6 k7 k8 k9 k10 k11 k12 b2 HB
   cases hb : stripeB x.n x.s s
   . have HR : Hid (2 = scode8 x ms ds s) := by unfold Hid; rw [HV2.out, if_neg (by simp [hb])]
     clear hb
     go_wp2
     go_ret
     exact ⟨ret_int HR.out, HB2.out⟩
   . have HR : Hid (0 = scode8 x ms ds s) := by unfold Hid; rw [HV2.out, if_pos hb]
     clear hb
     go_wp2
     go_ret
     exact ⟨ret_int HR.out, HB2.out⟩
 . have HR : Hid (q = scode8 x ms ds s) := by unfold Hid; rw [HV.out, if_neg hq]
   have e0 : (q != 0) = true := by simpa using hq
   clear hq HV
   go_wp2
   go_ret
   exact ⟨ret_int HR.out, HB.out⟩

theorem copyArr_any (w : World) (E F G : TypeId) (x : ArrN) (am ad : Option Addr) (nm cm nd cd : Nat) (ms : List MemD) (ds : List (Int × List Int)) (h0 : (tMemS E F).Rd w [.slice am nm cm] ms) (h1 : (tWrS G).Rd w [.slice ad nd cd] ds) (hw : wtArr ms ds <= 2097152) :
 Calls Tryz.prog 52 #[.agg #[.int .i64 x.id, .int .i64 x.n, .int .i64 x.s, .slice am nm cm, .int .i64 x.lost, .int .i64 x.built, .int .i64 x.seq, .int .i64 x.tail, .int .i64 x.gen, .slice ad nd cd, .int .i64 x.fuse, .bool x.down, .bool x.broken]] w fun e w' => ∃ bm cm' bd cd' m, e = .returned (.agg #[.int .i64 x.id, .int .i64 x.n, .int .i64 x.s, .slice bm nm cm', .int .i64 x.lost, .int .i64 x.built, .int .i64 x.seq, .int .i64 x.tail, .int .i64 x.gen, .slice bd nd cd', .int .i64 x.fuse, .bool x.down, .bool x.broken]) /\ (tMemS 159 109).Own w' w.heap.size m [.slice bm nm cm'] ms /\ (tWrS 86).Own w' m w'.heap.size [.slice bd nd cd'] ds /\ w.heap.size <= m /\ m <= w'.heap.size /\ Below w.heap.size w w' := by
 have hwm : wtMemS ms <= 2097152 := by unfold wtArr at hw; omega
 have hwd : wtWrS ds <= 2097152 := by unfold wtArr at hw; omega
 obtain ⟨hl0, _, hm0⟩ := row_length h0
 obtain ⟨hl1, _, hm1⟩ := row_length h1
 have hn0 : nm <= 2097152 := by unfold wtMemS at hwm; omega
 have hn1 : nd <= 2097152 := by unfold wtWrS at hwd; omega
 obtain ⟨i1, hi1, hy0, hy1, hy2⟩ := info_parts Tryz.infoEnt
 obtain ⟨i4, hi4, hz0, hz1, hz2⟩ := info_parts Tryz.infoMem
 have zz : ∀ u : World, ∀ ob : Obj, (u.alloc ob).heap.size = u.heap.size + 1 := fun u ob => by simp
 have xm : Box (((w.alloc (.cells #[.int .i64 x.id, .int .i64 x.n, .int .i64 x.s, .slice am nm cm, .int .i64 x.lost, .int .i64 x.built, .int .i64 x.seq, .int .i64 x.tail, .int .i64 x.gen, .slice ad nd cd, .int .i64 x.fuse, .bool x.down, .bool x.broken] 29)).alloc (.cells #[.int .i64 0, .int .i64 0, .int .i64 0, .slice none 0 0, .int .i64 0, .int .i64 0, .int .i64 0, .int .i64 0, .int .i64 0, .slice none 0 0, .int .i64 0, .bool false, .bool false] 29)).alloc (.cells #[.int .i64 x.id, .int .i64 x.n, .int .i64 x.s, .slice none 0 0, .int .i64 x.lost, .int .i64 x.built, .int .i64 x.seq, .int .i64 x.tail, .int .i64 x.gen, .slice none 0 0, .int .i64 x.fuse, .bool x.down, .bool x.broken] 29)) (w.heap.size) 29 #[.int .i64 x.id, .int .i64 x.n, .int .i64 x.s, .slice am nm cm, .int .i64 x.lost, .int .i64 x.built, .int .i64 x.seq, .int .i64 x.tail, .int .i64 x.gen, .slice ad nd cd, .int .i64 x.fuse, .bool x.down, .bool x.broken] := ((Box.new w _ _).alloc _).alloc _
 have xr0 := Box.new (w.alloc (.cells #[.int .i64 x.id, .int .i64 x.n, .int .i64 x.s, .slice am nm cm, .int .i64 x.lost, .int .i64 x.built, .int .i64 x.seq, .int .i64 x.tail, .int .i64 x.gen, .slice ad nd cd, .int .i64 x.fuse, .bool x.down, .bool x.broken] 29)) 29 #[.int .i64 0, .int .i64 0, .int .i64 0, .slice none 0 0, .int .i64 0, .int .i64 0, .int .i64 0, .int .i64 0, .int .i64 0, .slice none 0 0, .int .i64 0, .bool false, .bool false]
 rw [zz] at xr0
 have xr : Box (((w.alloc (.cells #[.int .i64 x.id, .int .i64 x.n, .int .i64 x.s, .slice am nm cm, .int .i64 x.lost, .int .i64 x.built, .int .i64 x.seq, .int .i64 x.tail, .int .i64 x.gen, .slice ad nd cd, .int .i64 x.fuse, .bool x.down, .bool x.broken] 29)).alloc (.cells #[.int .i64 0, .int .i64 0, .int .i64 0, .slice none 0 0, .int .i64 0, .int .i64 0, .int .i64 0, .int .i64 0, .int .i64 0, .slice none 0 0, .int .i64 0, .bool false, .bool false] 29)).alloc (.cells #[.int .i64 x.id, .int .i64 x.n, .int .i64 x.s, .slice none 0 0, .int .i64 x.lost, .int .i64 x.built, .int .i64 x.seq, .int .i64 x.tail, .int .i64 x.gen, .slice none 0 0, .int .i64 x.fuse, .bool x.down, .bool x.broken] 29)) (w.heap.size + 1) 29 #[.int .i64 0, .int .i64 0, .int .i64 0, .slice none 0 0, .int .i64 0, .int .i64 0, .int .i64 0, .int .i64 0, .int .i64 0, .slice none 0 0, .int .i64 0, .bool false, .bool false] := xr0.alloc _
 have xo := Box.new ((w.alloc (.cells #[.int .i64 x.id, .int .i64 x.n, .int .i64 x.s, .slice am nm cm, .int .i64 x.lost, .int .i64 x.built, .int .i64 x.seq, .int .i64 x.tail, .int .i64 x.gen, .slice ad nd cd, .int .i64 x.fuse, .bool x.down, .bool x.broken] 29)).alloc (.cells #[.int .i64 0, .int .i64 0, .int .i64 0, .slice none 0 0, .int .i64 0, .int .i64 0, .int .i64 0, .int .i64 0, .int .i64 0, .slice none 0 0, .int .i64 0, .bool false, .bool false] 29)) 29 #[.int .i64 x.id, .int .i64 x.n, .int .i64 x.s, .slice none 0 0, .int .i64 x.lost, .int .i64 x.built, .int .i64 x.seq, .int .i64 x.tail, .int .i64 x.gen, .slice none 0 0, .int .i64 x.fuse, .bool x.down, .bool x.broken]
 rw [zz, zz] at xo
 have hB : Below (w.heap.size) w (((w.alloc (.cells #[.int .i64 x.id, .int .i64 x.n, .int .i64 x.s, .slice am nm cm, .int .i64 x.lost, .int .i64 x.built, .int .i64 x.seq, .int .i64 x.tail, .int .i64 x.gen, .slice ad nd cd, .int .i64 x.fuse, .bool x.down, .bool x.broken] 29)).alloc (.cells #[.int .i64 0, .int .i64 0, .int .i64 0, .slice none 0 0, .int .i64 0, .int .i64 0, .int .i64 0, .int .i64 0, .int .i64 0, .slice none 0 0, .int .i64 0, .bool false, .bool false] 29)).alloc (.cells #[.int .i64 x.id, .int .i64 x.n, .int .i64 x.s, .slice none 0 0, .int .i64 x.lost, .int .i64 x.built, .int .i64 x.seq, .int .i64 x.tail, .int .i64 x.gen, .slice none 0 0, .int .i64 x.fuse, .bool x.down, .bool x.broken] 29)) := (((Below.refl _ _).alloc (Nat.le_refl _) _).alloc (by simp) _).alloc (by simp; omega) _
 have hz : (((w.alloc (.cells #[.int .i64 x.id, .int .i64 x.n, .int .i64 x.s, .slice am nm cm, .int .i64 x.lost, .int .i64 x.built, .int .i64 x.seq, .int .i64 x.tail, .int .i64 x.gen, .slice ad nd cd, .int .i64 x.fuse, .bool x.down, .bool x.broken] 29)).alloc (.cells #[.int .i64 0, .int .i64 0, .int .i64 0, .slice none 0 0, .int .i64 0, .int .i64 0, .int .i64 0, .int .i64 0, .int .i64 0, .slice none 0 0, .int .i64 0, .bool false, .bool false] 29)).alloc (.cells #[.int .i64 x.id, .int .i64 x.n, .int .i64 x.s, .slice none 0 0, .int .i64 x.lost, .int .i64 x.built, .int .i64 x.seq, .int .i64 x.tail, .int .i64 x.gen, .slice none 0 0, .int .i64 x.fuse, .bool x.down, .bool x.broken] 29)).heap.size = w.heap.size + 1 + 1 + 1 := by simp
 have cm3 := xm.cell 3
 have cm9 := xm.cell 9
 clear xr0 zz
 go_enter Tryz.func52, Tryz.ntmps52
 go_wp2
 clear cm3 cm9
 generalize ((w.alloc (.cells #[.int .i64 x.id, .int .i64 x.n, .int .i64 x.s, .slice am nm cm, .int .i64 x.lost, .int .i64 x.built, .int .i64 x.seq, .int .i64 x.tail, .int .i64 x.gen, .slice ad nd cd, .int .i64 x.fuse, .bool x.down, .bool x.broken] 29)).alloc (.cells #[.int .i64 0, .int .i64 0, .int .i64 0, .slice none 0 0, .int .i64 0, .int .i64 0, .int .i64 0, .int .i64 0, .int .i64 0, .slice none 0 0, .int .i64 0, .bool false, .bool false] 29)).alloc (.cells #[.int .i64 x.id, .int .i64 x.n, .int .i64 x.s, .slice none 0 0, .int .i64 x.lost, .int .i64 x.built, .int .i64 x.seq, .int .i64 x.tail, .int .i64 x.gen, .slice none 0 0, .int .i64 x.fuse, .bool x.down, .bool x.broken] 29) = W2 at xm xr xo hB hz ⊢
 obtain ⟨LB, hLB⟩ : ∃ LB, W2.heap.size = LB := ⟨_, rfl⟩
 rw [hLB] at hz
 have q3 : w.heap.size + 1 + 1 + 1 <= LB /\ LB <= w.heap.size + 1 + 1 + 1 := by omega
 have hzL : LB <= W2.heap.size := by omega
 clear hLB hz
 obtain ⟨BO, hBO⟩ : ∃ BO, w.heap.size + 1 + 1 = BO := ⟨_, rfl⟩
 rw [hBO] at xo ⊢
 have q2 : w.heap.size + 1 + 1 <= BO /\ BO <= w.heap.size + 1 + 1 := by omega
 clear hBO
 obtain ⟨BR, hBR⟩ : ∃ BR, w.heap.size + 1 = BR := ⟨_, rfl⟩
 rw [hBR] at xr ⊢
 have q1 : w.heap.size + 1 <= BR /\ BR <= w.heap.size + 1 := by omega
 clear hBR
 have XM2 := hidden xm
 have XR2 := hidden xr
 have XO2 := hidden xo
 have HB2 := hidden hB
 clear xm xr xo hB
 go_loopw [14] (fun i wr => ∃ (j : Nat) (v0 : Value) (fp0 : List Nat), j <= nm /\ i = .int .i64 j /\ Fr LB BO W2 wr /\ Box wr BO 29 #[.int .i64 x.id, .int .i64 x.n, .int .i64 x.s, v0, .int .i64 x.lost, .int .i64 x.built, .int .i64 x.seq, .int .i64 x.tail, .int .i64 x.gen, .slice none 0 0, .int .i64 x.fuse, .bool x.down, .bool x.broken] /\ (tMemS 159 109).Mine wr [v0] (ms.take j) fp0 /\ (∀ b ∈ fp0, LB <= b)) (fun i _ => nm - (intOf i).toNat)
 case atStart => exact ⟨0, _, [], Nat.zero_le _, rfl, Fr.refl _ _ _, XO2.out, nil_mine _, by simp⟩
 case round =>
  obtain ⟨j, v0, fp0, hj, rfl, fr, xo, hm, hfp⟩ := hrel
  have hs := fr.size
  have hb := HB2.out.trans (fr.below (M := w.heap.size) (by omega) (by omega))
  by_cases hjn : j < nm
  . rcases quads_at rfl h0 with h0' | ⟨b, off, rfl, hbl, hcs⟩
    . omega
    have hdj : ms[j]? = some (ms[j]'(by omega)) := List.getElem?_eq_getElem (by omega)
    have htk : ms.take (j + 1) = ms.take j ++ [ms[j]'(by omega)] := List.take_succ_eq_append_getElem (by omega)
    generalize ms[j]'(by omega) = d at hdj htk
    have hin := Nat.le_trans (inner_leM hdj) hwm
    obtain ⟨u0, u1, u2, u3, hv0, hv1, hv2, hv3, hrv⟩ := hcs j d hdj
    obtain ⟨a0, c0, a1, c1, a3, c3', ss, cs, f, bs, rfl, rfl, rfl, rfl, rfl, r0, r1, r3⟩ := mem_at hrv
    have pv0 := (hb.cell (p := ⟨b, off + j * 4, none⟩) hbl).trans hv0
    have pv1 := (hb.cell (p := ⟨b, off + j * 4 + 1, none⟩) hbl).trans hv1
    have pv2 := (hb.cell (p := ⟨b, off + j * 4 + 2, none⟩) hbl).trans hv2
    have pv3 := (hb.cell (p := ⟨b, off + j * 4 + 3, none⟩) hbl).trans hv3
    have nb := new_below wr (.cells #[.slice a0 ss.length c0, .slice a1 cs.length c1, .bool f, .slice a3 bs.length c3'] 109)
    have hzm : (wr.alloc (.cells #[.slice a0 ss.length c0, .slice a1 cs.length c1, .bool f, .slice a3 bs.length c3'] 109)).heap.size = wr.heap.size + 1 := by simp
    have hbm := Below.andThen hb nb
    have R0 := hidden (r0.below hbm)
    have R1 := hidden (r1.below hbm)
    have R3 := hidden (r3.below hbm)
    have xom := xo.alloc (.cells #[.slice a0 ss.length c0, .slice a1 cs.length c1, .bool f, .slice a3 bs.length c3'] 109)
    have xmm := Box.new wr 109 #[.slice a0 ss.length c0, .slice a1 cs.length c1, .bool f, .slice a3 bs.length c3']
    have hmm := hm.alloc (.cells #[.slice a0 ss.length c0, .slice a1 cs.length c1, .bool f, .slice a3 bs.length c3'] 109)
    have frm : Fr LB BO W2 (wr.alloc (.cells #[.slice a0 ss.length c0, .slice a1 cs.length c1, .bool f, .slice a3 bs.length c3'] 109)) := fr.trans (Fr.ofBelow nb (by omega))
    have k1 : (0 : Int) <= (j : Int) := by omega
    have k2 : (j : Int) < (nm : Int) := by omega
    have HL : Hid ((ms.take j).length = j) := by unfold Hid; rw [List.length_take]; omega
    have L1 : Hid ((ms.take j).length + 1 <= maxLen) := by unfold Hid; rw [HL.out]; unfold maxLen; omega
    have L2 : Hid (((ms.take j).length + 1) * 80 <= 140737488355328) := by unfold Hid; rw [HL.out]; omega
    have hlt0 : ∀ b ∈ fp0, b < wr.heap.size := hm.lt
    have HTK := hidden htk
    have FRR := hidden frm
    have HM := hidden hmm
    have HFP := hidden hfp
    have XO := hidden xom
    have XMM := hidden xmm
    clear hcs hdj hv0 hv1 hv2 hv3 hrv htk xo hm hfp hb fr r0 r1 r3 nb hbm xom xmm hmm frm
    go_wp2_with fail
    generalize wr.alloc (.cells #[.slice a0 ss.length c0, .slice a1 cs.length c1, .bool f, .slice a3 bs.length c3'] 109) = wm at R0 R1 R3 FRR HM XO XMM hzm ⊢
    have FLT := hidden hlt0
    obtain ⟨MB, hMB⟩ : ∃ MB, wr.heap.size = MB := ⟨_, rfl⟩
    rw [hMB] at XMM hzm hs FLT ⊢
    clear hMB pv0 pv1 pv2 pv3
    have zMB : MB < wm.heap.size := by omega
    have zBO : BO < wm.heap.size := by omega
    have hzm2 : MB + 1 <= wm.heap.size := by omega
    clear hzm
    have mk : Hid (∀ w', Box w' BO 29 #[.int .i64 x.id, .int .i64 x.n, .int .i64 x.s, v0, .int .i64 x.lost, .int .i64 x.built, .int .i64 x.seq, .int .i64 x.tail, .int .i64 x.gen, .slice none 0 0, .int .i64 x.fuse, .bool x.down, .bool x.broken] -> Box w' MB 109 #[.slice a0 ss.length c0, .slice a1 cs.length c1, .bool f, .slice a3 bs.length c3'] -> w'.cell? ⟨BO, 3, none⟩ = some (v0) /\ w'.cell? ⟨MB, 0, none⟩ = some (.slice a0 ss.length c0) /\ w'.cell? ⟨MB, 1, none⟩ = some (.slice a1 cs.length c1) /\ w'.cell? ⟨MB, 2, none⟩ = some (.bool f) /\ w'.cell? ⟨MB, 3, none⟩ = some (.slice a3 bs.length c3')) := fun w' h1 h2 => ⟨h1.cell 3, h2.cell 0, h2.cell 1, h2.cell 2, h2.cell 3⟩
    have hS : wm.drew.cell? ⟨BO, 3, none⟩ = some (v0) /\ wm.drew.cell? ⟨MB, 0, none⟩ = some (.slice a0 ss.length c0) /\ wm.drew.cell? ⟨MB, 1, none⟩ = some (.slice a1 cs.length c1) /\ wm.drew.cell? ⟨MB, 2, none⟩ = some (.bool f) /\ wm.drew.cell? ⟨MB, 3, none⟩ = some (.slice a3 bs.length c3') := mk.out wm.drew XO.out XMM.out
    refine Upto.start (S := fun w' => w'.cell? ⟨BO, 3, none⟩ = some (v0) /\ w'.cell? ⟨MB, 0, none⟩ = some (.slice a0 ss.length c0) /\ w'.cell? ⟨MB, 1, none⟩ = some (.slice a1 cs.length c1) /\ w'.cell? ⟨MB, 2, none⟩ = some (.bool f) /\ w'.cell? ⟨MB, 3, none⟩ = some (.slice a3 bs.length c3')) (k := 7) (by kernel_rfl) ?_
    refine Upto.t 0 hS ?_
    refine Upto.t 1 hS ?_
    refine Upto.t 2 hS ?_
    refine Upto.one (i := 3) (by kernel_rfl) rfl (fun K hK => ?_)
    go_simp
    refine (copyMem_any _ E _ _ _ _ _ _ _ _ _ ss cs f bs R0.out.drew R1.out.drew R3.out.drew hin).mono ?_
    rintro e wc ⟨y0, y1, y3, m1, m2, rfl, o3, o0, o1, hm12, hm01, hm22, bc⟩
    have hbc' : Below wm.heap.size wm wc := (Below.refl wm.heap.size wm).drew.trans bc
    have hm01' : wm.heap.size <= m1 := hm01
    have om : (tMem 159).Own wc wm.heap.size wc.heap.size [y0, y1, .bool f, y3] (ss, cs, f, bs) := mem_own3 o0 o1 o3 (.inl (Nat.le_refl _)) (.inr (Nat.le_refl _)) (.inr hm12) ⟨by omega, by omega⟩ ⟨by omega, Nat.le_refl _⟩ ⟨Nat.le_refl _, by omega⟩
    obtain ⟨e0, g0, rfl⟩ := row_shape o0.rd
    obtain ⟨e1, g1, rfl⟩ := row_shape o1.rd
    obtain ⟨e3, g3, rfl⟩ := row_shape o3.rd
    obtain ⟨fpx, mx, rx⟩ := om.mine
    have xoc := XO.out.below hbc' zBO
    have xmc := XMM.out.below hbc' zMB
    have hS3 : wc.cell? ⟨BO, 3, none⟩ = some (v0) /\ wc.cell? ⟨MB, 0, none⟩ = some (.slice a0 ss.length c0) /\ wc.cell? ⟨MB, 1, none⟩ = some (.slice a1 cs.length c1) /\ wc.cell? ⟨MB, 2, none⟩ = some (.bool f) /\ wc.cell? ⟨MB, 3, none⟩ = some (.slice a3 bs.length c3') := mk.out wc xoc xmc
    have zc := hbc'.size
    have hS4 : (wc.alloc (.cells #[.slice e0 ss.length g0, .slice e1 cs.length g1, .bool f, .slice e3 bs.length g3] 109)).cell? ⟨BO, 3, none⟩ = some (v0) /\ (wc.alloc (.cells #[.slice e0 ss.length g0, .slice e1 cs.length g1, .bool f, .slice e3 bs.length g3] 109)).cell? ⟨MB, 0, none⟩ = some (.slice a0 ss.length c0) /\ (wc.alloc (.cells #[.slice e0 ss.length g0, .slice e1 cs.length g1, .bool f, .slice e3 bs.length g3] 109)).cell? ⟨MB, 1, none⟩ = some (.slice a1 cs.length c1) /\ (wc.alloc (.cells #[.slice e0 ss.length g0, .slice e1 cs.length g1, .bool f, .slice e3 bs.length g3] 109)).cell? ⟨MB, 2, none⟩ = some (.bool f) /\ (wc.alloc (.cells #[.slice e0 ss.length g0, .slice e1 cs.length g1, .bool f, .slice e3 bs.length g3] 109)).cell? ⟨MB, 3, none⟩ = some (.slice a3 bs.length c3') := mk.out _ (xoc.alloc _) (xmc.alloc _)
    have XOC := hidden xoc
    have XMC := hidden xmc
    have MX := hidden mx
    have RX := hidden rx
    have HBC := hidden hbc'
    clear xoc xmc mx rx hbc' bc om o0 o1 o3 hm01 hm01' hm12 hm22 R0 R1 R3
    go_wp2_with fail
    refine hK.out _ _ (fun _ => hS3) ?_
    clear hK K
    refine Upto.one (i := 4) (by kernel_rfl) rfl (fun K hK => ?_)
    go_simp
    refine hK.out _ _ (fun _ => hS4) ?_
    clear hK K
    refine Upto.one (i := 5) (by kernel_rfl) rfl (fun K hK => ?_)
    refine step_appT (tMem 159) (by rfl) _ _ 26 (by rfl) 109 i4 (.agg #[.slice none 0 0, .slice none 0 0, .bool false, .slice none 0 0]) 80 Tryz.underlying26 hi4 hz0 hz1 hz2 rfl (by decide) v0 (ms.take j) fp0 (by rfl) ?_ ⟨wc.heap.size, 0, none⟩ 1 [.slice e0 ss.length g0, .slice e1 cs.length g1, .bool f, .slice e3 bs.length g3] (ss, cs, f, bs) fpx (by rfl) ?_ ?_ ?_ ?_ L1.out L2.out ?_
    . exact (HM.out.below HBC.out).alloc _
    . exact MX.out.alloc _
    . intro b hb hb'
      have h1 := HM.out.lt b hb
      have h2 := RX.out b hb'
      omega
    . exact news_new _ _ _
    . intro u hu
      simp at hu
      rcases hu with hu | hu | hu | hu <;> (rw [hu]; rfl)
    intro g cap wA fpA m1 m2 m3
    rw [HL.out] at m1 ⊢
    rw [← HTK.out] at m1
    have nMB : MB ∉ fp0 := fun hm => by have := FLT.out _ hm; omega
    have ya := (XOC.out.alloc (.cells #[.slice e0 ss.length g0, .slice e1 cs.length g1, .bool f, .slice e3 bs.length g3] 109)).turned m3 (fun hm => by have := HFP.out _ hm; omega)
    have ym := (XMC.out.alloc (.cells #[.slice e0 ss.length g0, .slice e1 cs.length g1, .bool f, .slice e3 bs.length g3] 109)).turned m3 nMB
    have hS5 : wA.cell? ⟨BO, 3, none⟩ = some (v0) /\ wA.cell? ⟨MB, 0, none⟩ = some (.slice a0 ss.length c0) /\ wA.cell? ⟨MB, 1, none⟩ = some (.slice a1 cs.length c1) /\ wA.cell? ⟨MB, 2, none⟩ = some (.bool f) /\ wA.cell? ⟨MB, 3, none⟩ = some (.slice a3 bs.length c3') := mk.out wA ya ym
    have r0 := hS5.1
    have fz := ya.frozen 3
    have YA := hidden ya
    have M1 := hidden m1
    have M2 := hidden m2
    have M3 := hidden m3
    clear ya ym m1 m2 m3 nMB
    refine hK.out _ _ (fun _ => hS5) ?_
    clear hK K
    simp only [Act.put, List.setIfInBounds_toArray, List.set_cons_zero, List.set_cons_succ]
    refine Upto.t 6 hS5 ?_
    refine Upto.one (i := 7) (by kernel_rfl) rfl (fun K hK => ?_)
    go_simp
    refine hK.out _ _ (fun h => absurd rfl h) ?_
    clear hK K
    refine Upto.done (by kernel_rfl) ?_ _
    have HFA := hidden (round_fp (N := LB) (by omega) HBC.out HFP.out RX.out M2.out)
    have FRA := hidden (Fr.round FRR.out (by omega) HBC.out _ M3.out HFP.out 3 (.slice (some ⟨g, 0, none⟩) (j + 1) cap))
    have MA := hidden (M1.out.setCell (g := BO) (j := 3) (fun hm => by have := HFA.out _ hm; omega) (.slice (some ⟨g, 0, none⟩) (j + 1) cap))
    have YA' := hidden (YA.out.set 3 (.slice (some ⟨g, 0, none⟩) (j + 1) cap))
    clear hS hS3 hS4 hS5 r0 YA M1 M2 M3 XOC MX RX HBC HFP HM FRR XO XMM XMC mk FLT
    go_wp2
    go_roundw
    case rel => exact ⟨j + 1, _, fpA, by omega, by go_num, FRA.out, YA'.out, MA.out, HFA.out⟩
    case measure => simp [intOf]; omega
  . have ej : nm = j := by omega
    subst ej
    rw [List.take_of_length_le (by omega)] at hm
    have hlt := hm.lt
    obtain ⟨eM, gM, hvM⟩ := row_shape hm.rd
    rw [hl0] at hvM
    subst hvM
    have KM := hm.own (lo := LB) (hi := wr.heap.size) (fun b hb => ⟨hfp b hb, hlt b hb⟩)
    have xr := fr.box XR2.out (by omega) (by omega)
    have xm := fr.box XM2.out (by omega) (by omega)
    have c9 : wr.cell? ⟨w.heap.size, 9, none⟩ = some (.slice ad nd cd) := xm.cell 9
    obtain ⟨LE, hLE⟩ : ∃ LE, wr.heap.size = LE := ⟨_, rfl⟩
    rw [hLE] at KM hs
    have hLE2 : LE <= wr.heap.size := by omega
    clear hLE
    have XM3 := hidden xm
    have XR3 := hidden xr
    have XO3 := hidden xo
    have KM3 := hidden KM
    have HB3 := hidden hb
    clear fr xo xm hm hfp hlt KM xr hb hj XM2 XR2 XO2 HB2
    go_wp2
    clear c9
    obtain ⟨wo, hwo⟩ : ∃ y, y = wr := ⟨_, rfl⟩
    subst hwo
    go_loopw [29] (fun i wq => ∃ (j : Nat) (v1 : Value) (fp1 : List Nat), j <= nd /\ i = .int .i64 j /\ Fr LE BO wo wq /\ Box wq BO 29 #[.int .i64 x.id, .int .i64 x.n, .int .i64 x.s, .slice eM nm gM, .int .i64 x.lost, .int .i64 x.built, .int .i64 x.seq, .int .i64 x.tail, .int .i64 x.gen, v1, .int .i64 x.fuse, .bool x.down, .bool x.broken] /\ (tWrS 86).Mine wq [v1] (ds.take j) fp1 /\ (∀ b ∈ fp1, LE <= b)) (fun i _ => nd - (intOf i).toNat)
    case atStart => exact ⟨0, _, [], Nat.zero_le _, rfl, Fr.refl _ _ _, XO3.out, nil_mine _, by simp⟩
    case round =>
     obtain ⟨j, v1, fp1, hj, rfl, fr, xo, hm, hfp⟩ := hrel
     have hs3 := fr.size
     have hb := HB3.out.trans (fr.below (M := w.heap.size) (by omega) (by omega))
     by_cases hjn : j < nd
     . rcases pairs_at rfl h1 with h0' | ⟨b, off, rfl, hbl, hcs⟩
       . omega
       have hdj : ds[j]? = some (ds[j]'(by omega)) := List.getElem?_eq_getElem (by omega)
       have htk : ds.take (j + 1) = ds.take j ++ [ds[j]'(by omega)] := List.take_succ_eq_append_getElem (by omega)
       generalize ds[j]'(by omega) = d at hdj htk
       have hil := inner_le' hdj
       obtain ⟨u0, u1, hv0, hv1, hrv⟩ := hcs j d hdj
       obtain ⟨rfl, hrv'⟩ := wr_rd hrv
       obtain ⟨av, cv, rfl⟩ := row_shape hrv'
       have pv0 := (hb.cell (p := ⟨b, off + j * 2, none⟩) hbl).trans hv0
       have pv1 := (hb.cell (p := ⟨b, off + j * 2 + 1, none⟩) hbl).trans hv1
       obtain ⟨x0, x1⟩ := d
       simp only at pv0 pv1 hrv' hil
       have nb := new_below wr (.cells #[.int .i64 x0, .slice av x1.length cv] 86)
       have hzm : (wr.alloc (.cells #[.int .i64 x0, .slice av x1.length cv] 86)).heap.size = wr.heap.size + 1 := by simp
       have HX := hidden (hrv'.below (Below.andThen hb nb))
       have k1 : (0 : Int) <= (j : Int) := by omega
       have k2 : (j : Int) < (nd : Int) := by omega
       have xom := xo.alloc (.cells #[.int .i64 x0, .slice av x1.length cv] 86)
       have xmm := Box.new wr 86 #[.int .i64 x0, .slice av x1.length cv]
       have hmm := hm.alloc (.cells #[.int .i64 x0, .slice av x1.length cv] 86)
       have frm : Fr LE BO wo (wr.alloc (.cells #[.int .i64 x0, .slice av x1.length cv] 86)) := fr.trans (Fr.ofBelow nb (by omega))
       have hlt0 : ∀ b ∈ fp1, b < wr.heap.size := hm.lt
       have HL : Hid ((ds.take j).length = j) := by unfold Hid; rw [List.length_take]; omega
       have L1 : Hid ((ds.take j).length + 1 <= maxLen) := by unfold Hid; rw [HL.out]; unfold maxLen; omega
       have L2 : Hid (((ds.take j).length + 1) * 32 <= 140737488355328) := by unfold Hid; rw [HL.out]; omega
       have HTK := hidden htk
       have FRR := hidden frm
       have HM := hidden hmm
       have HFP := hidden hfp
       have XO := hidden xom
       have XMM := hidden xmm
       have FLT := hidden hlt0
       clear hcs hdj hv0 hv1 hrv hrv' htk xo hm hfp hb fr nb xom xmm hmm frm hlt0
       go_wp2_with fail
       generalize wr.alloc (.cells #[.int .i64 x0, .slice av x1.length cv] 86) = wm at HX FRR HM XO XMM hzm ⊢
       obtain ⟨MB, hMB⟩ : ∃ MB, wr.heap.size = MB := ⟨_, rfl⟩
       rw [hMB] at XMM hzm hs3 FLT ⊢
       clear hMB pv0 pv1
       have zMB : MB < wm.heap.size := by omega
       have zBO : BO < wm.heap.size := by omega
       have hzm2 : MB + 1 <= wm.heap.size := by omega
       clear hzm
       have mk : Hid (∀ w', Box w' BO 29 #[.int .i64 x.id, .int .i64 x.n, .int .i64 x.s, .slice eM nm gM, .int .i64 x.lost, .int .i64 x.built, .int .i64 x.seq, .int .i64 x.tail, .int .i64 x.gen, v1, .int .i64 x.fuse, .bool x.down, .bool x.broken] -> Box w' MB 86 #[.int .i64 x0, .slice av x1.length cv] -> w'.cell? ⟨BO, 9, none⟩ = some (v1) /\ w'.cell? ⟨MB, 0, none⟩ = some (.int .i64 x0) /\ w'.cell? ⟨MB, 1, none⟩ = some (.slice av x1.length cv)) := fun w' h1 h2 => ⟨h1.cell 9, h2.cell 0, h2.cell 1⟩
       have hS : wm.drew.cell? ⟨BO, 9, none⟩ = some (v1) /\ wm.drew.cell? ⟨MB, 0, none⟩ = some (.int .i64 x0) /\ wm.drew.cell? ⟨MB, 1, none⟩ = some (.slice av x1.length cv) := mk.out wm.drew XO.out XMM.out
       refine Upto.start (S := fun w' => w'.cell? ⟨BO, 9, none⟩ = some (v1) /\ w'.cell? ⟨MB, 0, none⟩ = some (.int .i64 x0) /\ w'.cell? ⟨MB, 1, none⟩ = some (.slice av x1.length cv)) (k := 11) (by kernel_rfl) ?_
       refine Upto.t 0 hS ?_
       refine Upto.t 1 hS ?_
       refine Upto.t 2 hS ?_
       refine Upto.t 3 hS ?_
       refine Upto.t 4 hS ?_
       refine Upto.t 5 hS ?_
       refine Upto.one (i := 6) (by kernel_rfl) rfl (fun K hK => ?_)
       go_simp
       refine (copyWords_any _ _ _ _ x1 HX.out.drew (by omega)).mono ?_
       rintro e wc ⟨ac, cc, rfl, ow, bc⟩
       have hbc' : Below wm.heap.size wm wc := (Below.refl wm.heap.size wm).drew.trans bc
       obtain ⟨fpx, mx, rx0⟩ := ow.mine
       have rx : ∀ b ∈ fpx, wm.heap.size <= b /\ b < wc.heap.size := rx0
       have xoc := XO.out.below hbc' zBO
       have xmc := XMM.out.below hbc' zMB
       have hS3 : wc.cell? ⟨BO, 9, none⟩ = some (v1) /\ wc.cell? ⟨MB, 0, none⟩ = some (.int .i64 x0) /\ wc.cell? ⟨MB, 1, none⟩ = some (.slice av x1.length cv) := mk.out wc xoc xmc
       have zc := hbc'.size
       have hS4 : (wc.alloc (.cells #[.int .i64 x0, .slice ac x1.length cc] 86)).cell? ⟨BO, 9, none⟩ = some (v1) /\ (wc.alloc (.cells #[.int .i64 x0, .slice ac x1.length cc] 86)).cell? ⟨MB, 0, none⟩ = some (.int .i64 x0) /\ (wc.alloc (.cells #[.int .i64 x0, .slice ac x1.length cc] 86)).cell? ⟨MB, 1, none⟩ = some (.slice av x1.length cv) := mk.out _ (xoc.alloc _) (xmc.alloc _)
       have XOC := hidden xoc
       have XMC := hidden xmc
       have MX := hidden mx
       have RX := hidden rx
       have HBC := hidden hbc'
       clear xoc xmc mx rx rx0 hbc' bc ow HX
       go_wp2_with fail
       refine hK.out _ _ (fun _ => hS3) ?_
       clear hK K
       refine Upto.t 7 hS3 ?_
       refine Upto.one (i := 8) (by kernel_rfl) rfl (fun K hK => ?_)
       go_simp
       refine hK.out _ _ (fun _ => hS4) ?_
       clear hK K
       refine Upto.one (i := 9) (by kernel_rfl) rfl (fun K hK => ?_)
       refine step_appT tWr (by rfl) _ _ 27 (by rfl) 86 i1 (.agg #[.int .i64 0, .slice none 0 0]) 32 Tryz.underlying27 hi1 hy0 hy1 hy2 rfl Nat.zero_lt_two v1 (ds.take j) fp1 (by rfl) ?_ ⟨wc.heap.size, 0, none⟩ 1 [.int .i64 x0, .slice ac x1.length cc] (x0, x1) fpx (by rfl) ?_ ?_ ?_ ?_ L1.out L2.out ?_
       . exact (HM.out.below HBC.out).alloc _
       . exact (wr_mine x0 MX.out).alloc _
       . intro b hb hb'
         have h1 := HM.out.lt b hb
         have h2 := RX.out b hb'
         omega
       . exact news_new _ _ _
       . intro u hu
         simp at hu
         rcases hu with hu | hu <;> (rw [hu]; rfl)
       intro g cap wA fpA m1 m2 m3
       rw [HL.out] at m1 ⊢
       rw [← HTK.out] at m1
       have nMB : MB ∉ fp1 := fun hm => by have := FLT.out _ hm; omega
       have ya := (XOC.out.alloc (.cells #[.int .i64 x0, .slice ac x1.length cc] 86)).turned m3 (fun hm => by have := HFP.out _ hm; omega)
       have ym := (XMC.out.alloc (.cells #[.int .i64 x0, .slice ac x1.length cc] 86)).turned m3 nMB
       have hS5 : wA.cell? ⟨BO, 9, none⟩ = some (v1) /\ wA.cell? ⟨MB, 0, none⟩ = some (.int .i64 x0) /\ wA.cell? ⟨MB, 1, none⟩ = some (.slice av x1.length cv) := mk.out wA ya ym
       have r0 := hS5.1
       have fz := ya.frozen 9
       have YA := hidden ya
       have M1 := hidden m1
       have M2 := hidden m2
       have M3 := hidden m3
       clear ya ym m1 m2 m3 nMB
       refine hK.out _ _ (fun _ => hS5) ?_
       clear hK K
       simp only [Act.put, List.setIfInBounds_toArray, List.set_cons_zero, List.set_cons_succ]
       refine Upto.t 10 hS5 ?_
       refine Upto.one (i := 11) (by kernel_rfl) rfl (fun K hK => ?_)
       go_simp
       refine hK.out _ _ (fun h => absurd rfl h) ?_
       clear hK K
       refine Upto.done (by kernel_rfl) ?_ _
       have HFA := hidden (round_fp (N := LE) (by omega) HBC.out HFP.out RX.out M2.out)
       have FRA := hidden (Fr.round FRR.out (by omega) HBC.out _ M3.out HFP.out 9 (.slice (some ⟨g, 0, none⟩) (j + 1) cap))
       have MA := hidden (M1.out.setCell (g := BO) (j := 9) (fun hm => by have := HFA.out _ hm; omega) (.slice (some ⟨g, 0, none⟩) (j + 1) cap))
       have YA' := hidden (YA.out.set 9 (.slice (some ⟨g, 0, none⟩) (j + 1) cap))
       clear hS hS3 hS4 hS5 r0 YA M1 M2 M3 XOC MX RX HBC HFP HM FRR XO XMM XMC mk FLT
       go_wp2
       go_roundw
       case rel => exact ⟨j + 1, _, fpA, by omega, by go_num, FRA.out, YA'.out, MA.out, HFA.out⟩
       case measure => simp [intOf]; omega
     . have ej : nd = j := by omega
       subst ej
       rw [List.take_of_length_le (by omega)] at hm
       have hlt := hm.lt
       obtain ⟨eD, gD, hvD⟩ := row_shape hm.rd
       rw [hl1] at hvD
       subst hvD
       have K1 := hm.own (lo := LE) (hi := wr.heap.size) (fun b hb => ⟨hfp b hb, hlt b hb⟩)
       have K0 := fr.own KM3.out (Nat.le_refl _) (.inr (by omega))
       have xr := fr.box XR3.out (by omega) (by omega)
       have hbt := puts_but BR [(0, .int .i64 x.id), (1, .int .i64 x.n), (2, .int .i64 x.s), (3, .slice eM nm gM), (4, .int .i64 x.lost), (5, .int .i64 x.built), (6, .int .i64 x.seq), (7, .int .i64 x.tail), (8, .int .i64 x.gen), (9, .slice eD nd gD), (10, .int .i64 x.fuse), (11, .bool x.down), (12, .bool x.broken)] wr
       have H0 := K0.but hbt (.inr (by omega))
       have H1 := K1.but hbt (.inr (by omega))
       have HBB := Below.andBut hb hbt (by omega)
       have hsz := hbt.size
       have H0w := hidden (H0.widen (lo' := w.heap.size) (hi' := LE) (by omega) (Nat.le_refl _))
       have H1w := hidden (H1.widen (lo' := LE) (Nat.le_refl _) hsz)
       have HBw := hidden HBB
       have HSZ : Hid (LE <= (puts wr BR [(0, .int .i64 x.id), (1, .int .i64 x.n), (2, .int .i64 x.s), (3, .slice eM nm gM), (4, .int .i64 x.lost), (5, .int .i64 x.built), (6, .int .i64 x.seq), (7, .int .i64 x.tail), (8, .int .i64 x.gen), (9, .slice eD nd gD), (10, .int .i64 x.fuse), (11, .bool x.down), (12, .bool x.broken)]).heap.size) := by unfold Hid; omega
       simp only [puts] at H0w H1w HBw HSZ
       obtain ⟨p0, p1, p2, p3, p4, p5, p6, p7, p8, p9, p10, p11, p12⟩ := xr.cells13
       have fz := xr.frozen
       obtain ⟨r0, r1, r2, r3, r4, r5, r6, r7, r8, r9, r10, r11, r12⟩ := xo.cells13
       have hLw : w.heap.size <= LE := by omega
       clear fr xo hb hm hfp hlt xr K0 K1 hbt H0 H1 HBB hsz hj hs3
       go_wp2
       refine bodyPost_ret (v := .agg #[.int .i64 x.id, .int .i64 x.n, .int .i64 x.s, .slice eM nm gM, .int .i64 x.lost, .int .i64 x.built, .int .i64 x.seq, .int .i64 x.tail, .int .i64 x.gen, .slice eD nd gD, .int .i64 x.fuse, .bool x.down, .bool x.broken]) (by simp [results, Tryz.results52, go_sem, p0, p1, p2, p3, p4, p5, p6, p7, p8, p9, p10, p11, p12]) rfl ?_
       exact ⟨_, _, _, _, LE, rfl, H0w.out, H1w.out, hLw, HSZ.out, HBw.out⟩

def Found (ds : List (Int × List Int)) (t : Int) (w : World) (e : Ending) (w' : World) : Prop := ∃ (k : Nat) (r : Bool), e = .returned (.tuple #[.int .i64 k, .bool r]) /\ Spot ds t k r /\ Below w.heap.size w w'

theorem stripe_any (w : World) (y : Int) (a : Option Addr) (n c : Nat) : Calls Tryz.prog 270 #[.agg #[.int .i64 y, .slice a n c]] w fun e w' => e = .returned (.int .i64 y) /\ Below w.heap.size w w' := by
 have hA := new_below w (.cells #[.int .i64 y, .slice a n c] 86)
 have xm := Box.new w 86 #[.int .i64 y, .slice a n c]
 have c0 : (w.alloc (.cells #[.int .i64 y, .slice a n c] 86)).cell? ⟨w.heap.size, 0, none⟩ = some (.int .i64 y) := xm.cell 0
 have HA := hidden hA
 clear hA xm
 go_enter Tryz.func270, Tryz.ntmps270
 go_wp2
 go_ret
 exact ⟨rfl, HA.out⟩

theorem find1_any (w : World) (y t : Int) (a : Option Addr) (n c : Nat) (hy : 0 <= y /\ y <= 100) (ht : 0 <= t /\ t <= 100) : Calls Tryz.prog 196 #[.agg #[.int .i64 y, .slice a n c], .int .i64 t] w fun e w' => e = .returned (.int .i64 (y - t)) /\ Below w.heap.size w w' := by
 have hA := new_below w (.cells #[.int .i64 y, .slice a n c] 86)
 have xm := Box.new w 86 #[.int .i64 y, .slice a n c]
 have c0 : (w.alloc (.cells #[.int .i64 y, .slice a n c] 86)).cell? ⟨w.heap.size, 0, none⟩ = some (.int .i64 y) := xm.cell 0
 have c1 : (w.alloc (.cells #[.int .i64 y, .slice a n c] 86)).cell? ⟨w.heap.size, 1, none⟩ = some (.slice a n c) := xm.cell 1
 have HA := hidden hA
 have gw : IntKind.i64.wrap (y - t) = y - t := IntWalk.i64_in _ (by omega)
 have na : ∀ w, Sem.run Tryz.prog (nilAhead (339 + 1) 86 (.agg #[.int .i64 y, .slice a n c]) "loop.example/g00398/impl.stripe") w = .ok (some false) w := fun w => by kernel_rfl
 clear hA xm
 go_enter Tryz.func196, Tryz.ntmps196
 go_wp2_with fail
 refine (stripe_any _ _ _ _ _).mono ?_
 rintro e w1 ⟨rfl, b1⟩
 have HB := hidden (Below.andThen HA.out b1)
 clear b1 HA c0 c1
 go_wp2
 go_ret
 exact ⟨rfl, HB.out⟩

theorem bsearch_any (w : World) (G : TypeId) (a : Option Addr) (len cap : Nat) (ds : List (Int × List Int)) (t : Int) (h1 : (tWrS G).Rd w [.slice a len cap] ds) (hlen : len <= 2097152) (ha : Asc8 ds) (ht : 0 <= t /\ t <= 100) :
 Calls Tryz.prog 195 #[.slice a len cap, .int .i64 t, .func (Fn.func 196) #[] #[]] w fun e w' => Found ds t w e w' := by
 obtain ⟨hz, _, _⟩ := row_length h1
 have HT := hidden ht
 have HASC := hidden ha
 clear ht ha
 go_enter Tryz.func195, Tryz.ntmps195
 go_wp2
 go_loopw [9, 10] (fun iv jv wr => ∃ (i j : Nat), i <= j /\ j <= len /\ iv = .int .i64 i /\ jv = .int .i64 j /\ (∀ q e, q < i -> ds[q]? = some e -> e.1 < t) /\ (∀ q e, j <= q -> ds[q]? = some e -> t <= e.1) /\ Below w.heap.size w wr) (fun iv jv _ => (intOf jv).toNat - (intOf iv).toNat)
 case atStart => exact ⟨0, len, Nat.zero_le _, Nat.le_refl _, rfl, rfl, fun q e h => absurd h (by omega), fun q e h he => absurd (List.getElem?_eq_some_iff.1 he).1 (by omega), Below.refl _ _⟩
 case round =>
  obtain ⟨i, j, hij, hj, rfl, rfl, hlo, hhi, hs⟩ := hrel
  by_cases hlt : i < j
  . have k1 : (i : Int) < (j : Int) := by omega
    rcases pairs_at rfl h1 with h0 | ⟨b, off, rfl, hbl, hcs⟩
    . omega
    obtain ⟨m, hm⟩ : ∃ m : Nat, ((i : Int) + (j : Int)) / 2 = (m : Int) := ⟨(i + j) / 2, by omega⟩
    have hm1 : i <= m := by omega
    have hm2 : m < j := by omega
    have hdj : ds[m]? = some (ds[m]'(by omega)) := List.getElem?_eq_getElem (by omega)
    generalize ds[m]'(by omega) = d at hdj
    obtain ⟨u0, u1, hv0, hv1, hrv⟩ := hcs m d hdj
    obtain ⟨rfl, hr1⟩ := wr_rd hrv
    obtain ⟨y, ys⟩ := d
    simp only at hv0 hr1
    obtain ⟨a1, c1, rfl⟩ := row_shape hr1
    have hc0 := (hs.cell (p := ⟨b, off + m * 2, none⟩) hbl).trans hv0
    have hc1 := (hs.cell (p := ⟨b, off + m * 2 + 1, none⟩) hbl).trans hv1
    have gw1 : IntKind.i64.wrap ((i : Int) + (j : Int)) = (i : Int) + (j : Int) := IntWalk.i64_in _ (by omega)
    have gw3 : IntKind.i64.wrap (m : Int) = (m : Int) := IntWalk.i64_in _ (by omega)
    have k2 : (0 : Int) <= (m : Int) := by omega
    have k3 : (m : Int) < (len : Int) := by omega
    have HLO := hidden hlo
    have HHI := hidden hhi
    have HDJ := hidden hdj
    have HS := hidden hs
    have HY : Hid (0 <= y /\ y <= 100) := HASC.out.2 m _ hdj
    clear hlo hhi hcs hv0 hv1 hrv hr1 hdj hs
    go_wp2_with fail
    refine (find1_any _ _ _ _ _ _ HY.out HT.out).mono ?_
    rintro e w1 ⟨rfl, b1⟩
    have HB := hidden (Below.andThen HS.out b1)
    clear b1 HS hc0 hc1
    by_cases hx : y - t < 0
    . go_wp2
      go_roundw
      case rel => exact ⟨m + 1, j, by omega, hj, by go_num, rfl, fun q e hq he => by
       by_cases hqm : q = m
       . subst hqm
         rw [HDJ.out] at he
         simp at he
         subst he
         show y < t
         omega
       . have := HASC.out.1 q m e _ (by omega) he HDJ.out
         have : e.1 < y := this
         omega, HHI.out, HB.out⟩
      case measure => simp [intOf]; omega
    . go_wp2
      go_roundw
      case rel => exact ⟨i, m, hm1, by omega, rfl, rfl, HLO.out, fun q e hq he => by
       by_cases hqm : q = m
       . subst hqm
         rw [HDJ.out] at he
         simp at he
         subst he
         show t <= y
         omega
       . have := HASC.out.1 m q _ e (by omega) HDJ.out he
         have : y < e.1 := this
         omega, HB.out⟩
      case measure => simp [intOf]; omega
  . have e : i = j := by omega
    subst e
    by_cases hil : i < len
    . rcases pairs_at rfl h1 with h0 | ⟨b, off, rfl, hbl, hcs⟩
      . omega
      have hdj : ds[i]? = some (ds[i]'(by omega)) := List.getElem?_eq_getElem (by omega)
      generalize ds[i]'(by omega) = d at hdj
      obtain ⟨u0, u1, hv0, hv1, hrv⟩ := hcs i d hdj
      obtain ⟨rfl, hr1⟩ := wr_rd hrv
      obtain ⟨y, ys⟩ := d
      simp only at hv0 hr1
      obtain ⟨a1, c1, rfl⟩ := row_shape hr1
      have hc0 := (hs.cell (p := ⟨b, off + i * 2, none⟩) hbl).trans hv0
      have hc1 := (hs.cell (p := ⟨b, off + i * 2 + 1, none⟩) hbl).trans hv1
      have k2 : (0 : Int) <= (i : Int) := by omega
      have k3 : (i : Int) < (len : Int) := by omega
      have HLO := hidden hlo
      have HHI := hidden hhi
      have HDJ := hidden hdj
      have HS := hidden hs
      have HY : Hid (0 <= y /\ y <= 100) := HASC.out.2 i _ hdj
      clear hlo hhi hcs hv0 hv1 hrv hr1 hdj hs
      go_wp2_with fail
      refine (find1_any _ _ _ _ _ _ HY.out HT.out).mono ?_
      rintro e w1 ⟨rfl, b1⟩
      have HB := hidden (Below.andThen HS.out b1)
      clear b1 HS hc0 hc1
      by_cases hx : y - t = 0
      . have HP : Hid (Spot ds t i true) := ⟨by omega, HLO.out, HHI.out, .inl ⟨rfl, _, HDJ.out, by show y = t; omega⟩⟩
        go_wp2
        go_ret2
        exact ⟨i, true, by first | rfl | simp [hx], HP.out, HB.out⟩
      . have HP : Hid (Spot ds t i false) := ⟨by omega, HLO.out, HHI.out, .inr ⟨rfl, fun e he h' => by
         rw [HDJ.out] at he
         simp at he
         subst he
         have : y = t := h'
         omega⟩⟩
        have e1 : (y - t == 0) = false := by simpa using hx
        go_wp2
        go_ret2
        exact ⟨i, false, by first | rfl | simp [hx], HP.out, HB.out⟩
    . have HP : Hid (Spot ds t i false) := ⟨by omega, hlo, hhi, .inr ⟨rfl, fun e he => by have := (List.getElem?_eq_some_iff.1 he).1; omega⟩⟩
      have k3 : ¬ (i : Int) < (len : Int) := by omega
      have HS := hidden hs
      clear hlo hhi hs
      go_wp2
      go_ret2
      exact ⟨i, false, by first | rfl | simp, HP.out, HS.out⟩

theorem find_any (w : World) (G : TypeId) (a : Option Addr) (len cap : Nat) (ds : List (Int × List Int)) (t : Int) (h1 : (tWrS G).Rd w [.slice a len cap] ds) (hlen : len <= 2097152) (ha : Asc8 ds) (ht : 0 <= t /\ t <= 100) :
 Calls Tryz.prog 144 #[.slice a len cap, .int .i64 t] w fun e w' => Found ds t w e w' := by
 go_enter Tryz.func144, Tryz.ntmps144
 go_wp2_with fail
 refine (bsearch_any _ G _ _ _ ds t h1 hlen ha ht).mono ?_
 rintro e w1 ⟨k, r, rfl, hp, b1⟩
 have HP := hidden hp
 have HB := hidden b1
 clear hp b1 h1 ha ht
 go_wp2
 go_ret2
 exact ⟨k, r, rfl, HP.out, HB.out⟩

def Asked (ds : List (Int × List Int)) (t : Int) (Q : Nat -> List Int -> Option Addr -> Nat -> Prop) (w : World) (e : Ending) (w' : World) : Prop :=
 ((at8 ds t = -1 /\ e = .returned (.tuple #[.agg #[.int .i64 0, .slice none 0 0], .bool false])) ∨ ∃ (k : Nat) (ys : List Int) (a' : Option Addr) (c' : Nat), at8 ds t = (k : Int) /\ ds[k]? = some (t, ys) /\ e = .returned (.tuple #[.agg #[.int .i64 t, .slice a' ys.length c'], .bool true]) /\ Q k ys a' c') /\ Below w.heap.size w w'
theorem of_any (w : World) (G : TypeId) (a : Option Addr) (len cap : Nat) (ds : List (Int × List Int)) (t : Int) (h1 : (tWrS G).Rd w [.slice a len cap] ds) (hlen : len <= 2097152) (ha : Asc8 ds) (ht : 0 <= t /\ t <= 100) (Q : Nat -> List Int -> Option Addr -> Nat -> Prop) (hQ : EntsSo w a ds Q) :
 Calls Tryz.prog 82 #[.slice a len cap, .int .i64 t] w fun e w' => Asked ds t Q w e w' := by
 have hA := new_below w (.cells #[.int .i64 0, .slice none 0 0] 86)
 have R0 := Box.new w 86 #[.int .i64 0, .slice none 0 0]
 have zR := R0.lt
 have r1 := h1.below hA
 have HA := hidden hA
 have hl := (row_length h1).1
 clear h1
 go_enter Tryz.func82, Tryz.ntmps82
 go_wp2_with fail
 generalize w.alloc (.cells #[.int .i64 0, .slice none 0 0] 86) = W at hA R0 zR r1 HA ⊢
 refine (find_any _ G _ _ _ ds t r1 hlen ha ht).mono ?_
 rintro e w1 ⟨k, r, rfl, hp, b1⟩
 have R1 := R0.below b1 zR
 have B1 := Below.andThen hA b1
 have z1 := b1.size
 clear R0 r1 b1 hA HA
 cases r
 . have HM := hidden (hp.miss ha)
   have BN := new_below w1 (.cells #[.int .i64 0, .slice none 0 0] 86)
   have N1 := Box.new w1 86 #[.int .i64 0, .slice none 0 0]
   have R2 := R1.below BN R1.lt
   have B2 := Below.andThen B1 BN
   have n0 := N1.cell 0
   have n1 := N1.cell 1
   have s0 := R2.cell 0
   have s1 := R2.cell 1
   have fz := R2.frozen
   have HB : Hid (Below w.heap.size w (((w1.alloc (.cells #[.int .i64 0, .slice none 0 0] 86)).setCell ⟨w.heap.size, 0, none⟩ (.int .i64 0)).setCell ⟨w.heap.size, 1, none⟩ (.slice none 0 0))) := (B2.setCell (Nat.le_refl _) _).setCell (Nat.le_refl _) _
   clear R1 B1 BN N1 R2 B2 hp hQ ha ht
   go_wp2
   refine bodyPost_ret (v := .tuple #[.agg #[.int .i64 0, .slice none 0 0], .bool false]) (by simp [results, Tryz.results82, go_sem, s0, s1]) rfl ?_
   exact ⟨.inl ⟨HM.out, rfl⟩, HB.out⟩
 . obtain ⟨hat, d, hdk, hdt⟩ := hp.hit
   obtain ⟨y, ys⟩ := d
   simp only at hdt
   subst hdt
   obtain ⟨b, off, a1, c1, rfl, hbl, hv0, hv1, hq⟩ := hQ k _ hdk
   have hc0 := (B1.cell (p := ⟨b, off + k * 2, none⟩) hbl).trans hv0
   have hc1 := (B1.cell (p := ⟨b, off + k * 2 + 1, none⟩) hbl).trans hv1
   have hkl := (List.getElem?_eq_some_iff.1 hdk).1
   have k2 : (0 : Int) <= (k : Int) := by omega
   have k3 : (k : Int) < (len : Int) := by omega
   have s0 := R1.cell 0
   have s1 := R1.cell 1
   have fz := R1.frozen
   have HH := hidden hat
   have HK := hidden hdk
   have HQ := hidden hq
   have HB : Hid (Below w.heap.size w ((w1.setCell ⟨w.heap.size, 0, none⟩ (.int .i64 y)).setCell ⟨w.heap.size, 1, none⟩ (.slice a1 ys.length c1))) := (B1.setCell (Nat.le_refl _) _).setCell (Nat.le_refl _) _
   clear R1 B1 hp hQ ha ht hat hdk hq hv0 hv1
   go_wp2
   refine bodyPost_ret (v := .tuple #[.agg #[.int .i64 y, .slice a1 ys.length c1], .bool true]) (by simp [results, Tryz.results82, go_sem, s0, s1]) rfl ?_
   exact ⟨.inr ⟨k, ys, a1, c1, HH.out, HK.out, rfl, HQ.out⟩, HB.out⟩

theorem without1_any (w : World) (y t : Int) (a : Option Addr) (n c S : Nat) (hS : w.cell? ⟨S, 0, none⟩ = some (.int .i64 t)) (hSl : S < w.heap.size) : Calls Tryz.prog 149 #[.agg #[.int .i64 y, .slice a n c], .pointer (some ⟨S, 0, none⟩)] w fun e w' => e = .returned (.bool (decide (y = t))) /\ Below w.heap.size w w' := by
 have hA := new_below w (.cells #[.int .i64 y, .slice a n c] 86)
 have xm := Box.new w 86 #[.int .i64 y, .slice a n c]
 have zx := xm.lt
 have c0 : (w.alloc (.cells #[.int .i64 y, .slice a n c] 86)).cell? ⟨w.heap.size, 0, none⟩ = some (.int .i64 y) := xm.cell 0
 have c1 : (w.alloc (.cells #[.int .i64 y, .slice a n c] 86)).cell? ⟨w.heap.size, 1, none⟩ = some (.slice a n c) := xm.cell 1
 have cS := (hA.cell (p := ⟨S, 0, none⟩) hSl).trans hS
 have zS : S < (w.alloc (.cells #[.int .i64 y, .slice a n c] 86)).heap.size := by simp; omega
 have na : ∀ w, Sem.run Tryz.prog (nilAhead (339 + 1) 86 (.agg #[.int .i64 y, .slice a n c]) "loop.example/g00398/impl.stripe") w = .ok (some false) w := fun w => by kernel_rfl
 have HD : Hid (decide (y = t) = (y == t)) := by unfold Hid; by_cases h : y = t <;> simp [h]
 clear xm
 go_enter Tryz.func149, Tryz.ntmps149
 go_wp2_with fail
 generalize w.alloc (.cells #[.int .i64 y, .slice a n c] 86) = W at hA zx c0 c1 cS zS ⊢
 refine wp_region_held_drew (S := fun w' => w'.cell? ⟨w.heap.size, 0, none⟩ = some (.int .i64 y) /\ w'.cell? ⟨w.heap.size, 1, none⟩ = some (.slice a n c) /\ w'.cell? ⟨S, 0, none⟩ = some (.int .i64 t)) (by kernel_rfl) ?_ (fun hHeld => ?_)
 . exact ⟨c0, c1, cS⟩
 refine held_t 0 hHeld ?_
 refine held_t 1 hHeld ?_
 refine held_t 3 hHeld ?_
 refine held_one (i := 2) (by kernel_rfl) rfl (by kernel_rfl) (fun K hK => ?_)
 go_wp2_with fail
 refine (stripe_any _ _ _ _ _).mono ?_
 rintro e w1 ⟨rfl, b1⟩
 have b1' : Below W.heap.size W w1 := (Below.refl W.heap.size W).drew.trans b1
 go_wp2_with fail
 clear hHeld
 refine hK.out _ _ ⟨(b1'.cell (p := ⟨w.heap.size, 0, none⟩) zx).trans c0, (b1'.cell (p := ⟨w.heap.size, 1, none⟩) zx).trans c1, (b1'.cell (p := ⟨S, 0, none⟩) zS).trans cS⟩ (fun hHeld => ?_)
 clear hK K
 refine held_t 4 hHeld ?_
 refine held_t 5 hHeld ?_
 refine wpAnyH_done (by kernel_rfl) ?_ _
 clear hHeld
 have HB := hidden (Below.andThen hA b1')
 clear b1 b1' hA c0 c1 cS
 go_wp2
 go_ret
 exact ⟨ret_bool HD.out.symm, HB.out⟩

theorem index8_any (w : World) (G : TypeId) (ad : Option Addr) (len cap : Nat) (ds : List EntD) (t : Int) (S : Nat) (h1 : (tWrS G).Rd w [.slice ad len cap] ds) (hlen : len <= 2097152) (hS : w.cell? ⟨S, 0, none⟩ = some (.int .i64 t)) (hSl : S < w.heap.size) :
 Calls Tryz.prog 198 #[.slice ad len cap, .func (Fn.func 149) #[] #[.pointer (some ⟨S, 0, none⟩)]] w fun e w' => e = .returned (.int .i64 (at8 ds t)) /\ Below w.heap.size w w' := by
 obtain ⟨hl, _, _⟩ := row_length h1
 go_enter Tryz.func198, Tryz.ntmps198
 go_wp2
 go_loopw [8] (fun i wr => ∃ j : Nat, j <= len /\ i = .int .i64 j /\ (∀ i e', i < j -> ds[i]? = some e' -> ¬ e'.1 = t) /\ Below w.heap.size w wr) (fun i _ => len - (intOf i).toNat)
 case atStart => exact ⟨0, Nat.zero_le _, rfl, fun i _ h => absurd h (by omega), Below.refl _ _⟩
 case round =>
  obtain ⟨j, hj, rfl, hb, hs⟩ := hrel
  by_cases hjn : j < len
  . rcases pairs_at rfl h1 with h0 | ⟨b, off, rfl, hbl, hcs⟩
    . omega
    have hdj : ds[j]? = some (ds[j]'(by omega)) := List.getElem?_eq_getElem (by omega)
    generalize ds[j]'(by omega) = d at hdj
    obtain ⟨u0, u1, hv0, hv1, hrv⟩ := hcs j d hdj
    obtain ⟨rfl, hr1⟩ := wr_rd hrv
    obtain ⟨y, ys⟩ := d
    simp only at hv0 hr1
    obtain ⟨a1, c1, rfl⟩ := row_shape hr1
    have hc0 := (hs.cell (p := ⟨b, off + j * 2, none⟩) hbl).trans hv0
    have hc1 := (hs.cell (p := ⟨b, off + j * 2 + 1, none⟩) hbl).trans hv1
    have hcS := (hs.cell (p := ⟨S, 0, none⟩) hSl).trans hS
    have hsz := hs.size
    have k1 : (0 : Int) <= (j : Int) := by omega
    have k2 : (j : Int) < (len : Int) := by omega
    have HBB := hidden hb
    have HDJ := hidden hdj
    have HS := hidden hs
    clear hcs hrv hv0 hv1 hb hdj hr1 hs
    go_wp2_with fail
    refine (without1_any _ _ t _ _ _ S hcS (by omega)).mono ?_
    rintro e w1 ⟨rfl, b1⟩
    have HB := hidden (Below.andThen HS.out b1)
    clear b1 HS hc0 hc1 hcS
    by_cases he : y = t
    . have HV := hidden (at8_hit (s := t) HDJ.out he HBB.out)
      have e1 : decide (y = t) = true := by simpa using he
      clear he
      go_wp2
      go_ret
      exact ⟨ret_int HV.out.symm, HB.out⟩
    . have e1 : decide (y = t) = false := by simpa using he
      have HN : Hid (∀ i e', i < j + 1 -> ds[i]? = some e' -> ¬ e'.1 = t) := fun i e' hi h' => by
       by_cases hij : i = j
       . subst hij
         rw [HDJ.out] at h'
         simp at h'
         rw [← h']
         exact he
       . exact HBB.out i e' (by omega) h'
      clear he
      go_wp2
      go_roundw
      case rel => exact ⟨j + 1, by omega, by go_num, HN.out, HB.out⟩
      case measure => simp [intOf]; omega
  . have ej : j = len := by omega
    subst ej
    have HV := hidden (at8_none (s := t) (fun i e' h h' => hb i e' (by omega) h'))
    have HS := hidden hs
    have k2 : ¬ (j : Int) < (j : Int) := by omega
    clear hb hs
    go_wp2
    go_ret
    exact ⟨ret_int HV.out.symm, HS.out⟩

def Cloned (ds : List EntD) (g : Nat) (fd : List Nat) (w : World) (e : Ending) (w' : World) : Prop :=
 ∃ g' c' fp', e = .returned (.slice (some ⟨g', 0, none⟩) ds.length c') /\ (tWrS 86).Mine w' [.slice (some ⟨g', 0, none⟩) ds.length c'] ds fp' /\ (∀ b ∈ fp', (b ∈ fd /\ ¬ b = g) ∨ w.heap.size <= b) /\ Below w.heap.size w w'
theorem clone_any (w : World) (g cd : Nat) (ds : List EntD) (fd : List Nat) (hd : (tWrS 86).Mine w [.slice (some ⟨g, 0, none⟩) ds.length cd] ds fd) (hl : ds.length <= 500000) :
 Calls Tryz.prog 148 #[.slice (some ⟨g, 0, none⟩) ds.length cd] w fun e w' => Cloned ds g fd w e w' := by
 obtain ⟨i4, hi4, hz0, hz1, hz2⟩ := info_parts Tryz.infoEnt
 obtain ⟨cs, fps, s1, s2, s3, s4, s5, s6⟩ := row_seg hd
 have hlt := hd.lt
 have hn := hd.2
 rw [s2, List.nodup_cons] at hn
 have BN := new_below w (.cells #[] 86)
 have M0 := hidden (lit0_mine (t := tWr) (E := 86) w)
 have E1 : Hid (Elems tWr (w.alloc (.cells #[] 86)) cs ds fps) := by
  have h := s6 0 ds.length (by omega)
  rw [Nat.zero_mul, List.drop_zero, List.drop_zero, List.drop_zero, List.take_of_length_le (l := ds) (Nat.le_refl _), List.take_of_length_le (l := fps) (by omega), List.take_of_length_le (l := cs) (by rw [s3]; exact Nat.le_refl _)] at h
  exact h.kept (Turned.ofBelow BN []) (by simp)
 have ON := hidden (wr_one hn.2 s3 s5)
 have gl : g < w.heap.size := hlt g (by rw [s2]; exact List.mem_cons_self)
 have R1 : Hid (∀ k u, cs[k]? = some u -> (w.alloc (.cells #[] 86)).cell? ((⟨g, 0, none⟩ : Addr).add k) = some u) := fun k u hu => by
  have h2 := (BN.cell (p := ⟨g, k, none⟩) gl).trans (s4 k u hu)
  by_cases hk0 : k = 0
  . subst hk0; simpa [Addr.add] using h2
  . simpa [Addr.add, hk0] using h2
 have DJ : Hid (∀ b ∈ [w.heap.size], b ∉ fps.flatten) := fun b hb hm => by
  have := hlt b (by rw [s2]; exact List.mem_cons_of_mem _ hm)
  simp at hb
  omega
 have L1 : Hid (([] : List EntD).length + ds.length <= maxLen) := by unfold Hid maxLen; simp; omega
 have L2 : Hid ((([] : List EntD).length + ds.length) * 32 <= 140737488355328) := by unfold Hid; simp; omega
 have HS2 := hidden s2
 have HN := hidden hn
 have HBN := hidden BN
 clear s2 s4 s5 s6 hn hd BN
 have hnil : ∀ w, Sem.run Tryz.prog (binOp BinOp.eql 83 (.slice (some ⟨g, 0, none⟩) ds.length cd) (.slice none 0 0)) w = .ok (.bool false) w := fun w => Go.Lib.run_eql_slice_nil w _ _ _ _ _ _ _ Tryz.underlying83
 go_enter Tryz.func148, Tryz.ntmps148
 go_wp2_with (at_builtin; refine wpList_appN2 tWr rfl _ _ 83 rfl 86 i4 (.agg #[.int .i64 0, .slice none 0 0]) 32 Tryz.underlying83 hi4 hz0 hz1 hz2 rfl Nat.zero_lt_two w.heap.size 0 [] [w.heap.size] rfl M0.out ⟨g, 0, none⟩ cd cs ds fps rfl E1.out DJ.out R1.out ON.out L1.out L2.out ?_; intro g5 c5 w5 fp5 m1 m2 m3; have MO := hidden m1; have O2 := hidden m2; have O3 := hidden m3; clear m1 m2 m3)
 have HF : Hid (Cloned ds g fd w (.returned (.slice (some ⟨g5, 0, none⟩) ds.length c5)) w5) := by
  have hz := HBN.out.size
  refine ⟨g5, c5, fp5, rfl, by have := MO.out; simpa using this, fun b hb => ?_, ?_⟩
  . rcases O2.out b hb with h | h | h
    . simp at h; exact .inr (by omega)
    . refine .inl ⟨by rw [HS2.out]; exact List.mem_cons_of_mem _ h, fun e => HN.out.1 (e ▸ h)⟩
    . exact .inr (by omega)
  . exact HBN.out.trans ⟨O3.out.os, O3.out.tape, O3.out.output, O3.out.size, fun k hk => O3.out.block k (by omega) (by simp; omega)⟩
 clear M0 E1 R1 DJ ON MO O2 O3
 go_wp2
 go_ret
 exact HF.out

theorem clear_one {P : Program} (w : World) (t e ty : TypeId) (z z0 z1 : Value) (ht : P.underlying t = some (.slice e)) (hv : ∀ w, (zeroValue e).run P w = .ok z w) (hz : z.cells = #[z0, z1]) (o0 : z0.oneCell' = true) (o1 : z1.oneCell' = true) (b o c : Nat) (v0 v1 : Value)
 (c0 : w.cell? ⟨b, o, none⟩ = some v0) (c1 : w.cell? ⟨b, o + 1, none⟩ = some v1) (hf : ∀ j, w.frozen? ⟨b, j, none⟩ = false) :
 (Builtin.clear_ #[t] ty #[.slice (some ⟨b, o, none⟩) 1 c]).run P w = .ok (.tuple #[]) (w.setCells b o [z0, z1]) := by
 have hzc : (Builtin.zeroCells z.cells 1).toList = [z0, z1] := by
  rw [hz]
  simp [Builtin.zeroCells, Array.range]
 have hst := run_storeCells_cells (P := P) b o [z0, z1] 0 w (by
  intro j hj
  have hj2 : j < 2 := hj
  rcases j with _ | _ | j
  . simp [c0]
  . simp [c1]
  . omega) (fun j _ => hf _) (by
  intro v hv'
  simp only [List.mem_cons, List.not_mem_nil, or_false] at hv'
  rcases hv' with rfl | rfl
  . exact o0
  . exact o1)
 simp only [Nat.add_zero] at hst
 simp [Builtin.clear_, run_underlying ht, hv, hzc, hst]

theorem del_row {E : TypeId} {w w' : World} {g cap k : Nat} {ds : List EntD} {fps : List (List Nat)} {cur c' : Array Value} (hk : k < ds.length) (h2 : ds.length <= cap) (h3 : cap <= 9223372036854775807) (h5 : cur.size = cap * 2) (h7 : fps.length = ds.length) (h8 : ∀ i y, ds[i]? = some y -> ∃ f, fps[i]? = some f /\ tWr.ow w ((cur.toList.drop (i * 2)).take 2) y f)
 (hn : (g :: fps.flatten).Nodup) (hl : ∀ b ∈ fps.flatten, b < w.heap.size) (hs : c'.size = cur.size) (hc : ∀ q, q < (ds.length - 1) * 2 -> c'[q]? = if q < k * 2 then cur[q]? else cur[q + 2]?) (hg : w'.heap[g]? = some (.cells c' E (0, 0))) (ht : Turned [g] w w') :
 (tWrS E).Mine w' [.slice (some ⟨g, 0, none⟩) (ds.take k ++ ds.drop (k + 1)).length cap] (ds.take k ++ ds.drop (k + 1)) (g :: (fps.take k ++ fps.drop (k + 1)).flatten) := by
 have hlen : (ds.take k ++ ds.drop (k + 1)).length = ds.length - 1 := by simp; omega
 rw [List.nodup_cons] at hn
 have hsub : ∀ b ∈ (fps.take k ++ fps.drop (k + 1)).flatten, b ∈ fps.flatten := fun b hb => by
  simp only [List.flatten_append, List.mem_append] at hb
  rcases hb with hb | hb
  . exact (runs_sub (List.take_sublist _ _)).subset hb
  . exact (runs_sub (List.drop_sublist _ _)).subset hb
 refine ⟨.inr ⟨g, cap, c', fps.take k ++ fps.drop (k + 1), rfl, by omega, h3, hg, by rw [hs]; exact h5, rfl, by simp; omega, fun i y hy => ?_⟩, ?_⟩
 . have hi := (List.getElem?_eq_some_iff.1 hy).1
   rw [hlen] at hi
   have hcell : ∀ m : Nat, (∀ q, q < 2 -> c'[i * 2 + q]? = cur[m * 2 + q]?) -> (c'.toList.drop (i * 2)).take 2 = (cur.toList.drop (m * 2)).take 2 := fun m hm => by
    apply List.ext_getElem?
    intro q
    rw [List.getElem?_take, List.getElem?_take, List.getElem?_drop, List.getElem?_drop]
    by_cases hq : q < 2
    . rw [if_pos hq, if_pos hq]
      have := hm q hq
      simpa using this
    . rw [if_neg hq, if_neg hq]
   by_cases hik : i < k
   . rw [List.getElem?_append_left (by simp; omega), List.getElem?_take, if_pos hik] at hy
     obtain ⟨f, hf, ho⟩ := h8 i y hy
     refine ⟨f, by rw [List.getElem?_append_left (by simp; omega), List.getElem?_take, if_pos hik]; exact hf, ?_⟩
     show tWr.ow w' ((c'.toList.drop (i * 2)).take 2) y f
     rw [hcell i (fun q hq => by rw [hc _ (by omega), if_pos (by omega)])]
     exact tWr.owKept ho (fun b hb => ht.block b (hl b (List.mem_flatten.2 ⟨f, List.mem_of_getElem? hf, hb⟩)) (by simp; exact fun e => hn.1 (e ▸ List.mem_flatten.2 ⟨f, List.mem_of_getElem? hf, hb⟩))) ht.size
   . have e1 : (ds.take k).length = k := by simp; omega
     have e2 : (fps.take k).length = k := by simp; omega
     rw [List.getElem?_append_right (by omega), e1, List.getElem?_drop, show k + 1 + (i - k) = i + 1 by omega] at hy
     obtain ⟨f, hf, ho⟩ := h8 (i + 1) y hy
     refine ⟨f, by rw [List.getElem?_append_right (by omega), e2, List.getElem?_drop, show k + 1 + (i - k) = i + 1 by omega]; exact hf, ?_⟩
     show tWr.ow w' ((c'.toList.drop (i * 2)).take 2) y f
     rw [hcell (i + 1) (fun q hq => by rw [hc _ (by omega), if_neg (by omega), show (i + 1) * 2 + q = i * 2 + q + 2 by omega])]
     exact tWr.owKept ho (fun b hb => ht.block b (hl b (List.mem_flatten.2 ⟨f, List.mem_of_getElem? hf, hb⟩)) (by simp; exact fun e => hn.1 (e ▸ List.mem_flatten.2 ⟨f, List.mem_of_getElem? hf, hb⟩))) ht.size
 . rw [List.nodup_cons]
   refine ⟨fun hm => hn.1 (hsub g hm), ?_⟩
   have h1 : (fps.take k ++ fps.drop (k + 1)).Sublist fps := by
    have h2 := List.Sublist.append (List.Sublist.refl (fps.take k)) (show (fps.drop (k + 1)).Sublist (fps.drop k) by rw [← List.drop_drop]; exact List.drop_sublist _ _)
    rwa [List.take_append_drop] at h2
   exact (runs_sub h1).nodup hn.2

def Shift (cur : Array Value) (k i : Nat) (c' : Array Value) : Prop := c'.size = cur.size /\ ∀ q, c'[q]? = if k * 2 <= q /\ q < i * 2 then cur[q + 2]? else cur[q]?
theorem Shift.next {cur c' : Array Value} {k i : Nat} {v0 v1 : Value} (h : Shift cur k i c') (hk : k <= i) (h0 : cur[(i + 1) * 2]? = some v0) (h1 : cur[(i + 1) * 2 + 1]? = some v1) : Shift cur k (i + 1) ((c'.setIfInBounds (i * 2) v0).setIfInBounds (i * 2 + 1) v1) := by
 have hl : (i + 1) * 2 + 1 < cur.size := (Array.getElem?_eq_some_iff.1 h1).1
 refine ⟨by simpa using h.1, fun q => ?_⟩
 have hs := h.1
 rw [Array.getElem?_setIfInBounds, Array.getElem?_setIfInBounds]
 by_cases q1 : i * 2 + 1 = q
 . subst q1
   rw [if_pos rfl, if_pos (by simp; omega), if_pos (by omega), show i * 2 + 1 + 2 = (i + 1) * 2 + 1 by omega, h1]
 . rw [if_neg q1]
   by_cases q0 : i * 2 = q
   . subst q0
     rw [if_pos rfl, if_pos (by omega), if_pos (by omega), show i * 2 + 2 = (i + 1) * 2 by omega, h0]
   . rw [if_neg q0, h.2 q]
     by_cases hq : k * 2 <= q /\ q < i * 2
     . rw [if_pos hq, if_pos (by omega)]
     . rw [if_neg hq, if_neg (by omega)]

def Deleted (ds : List EntD) (fp : List Nat) (w : World) (e : Ending) (w' : World) : Prop :=
 ∃ g' c' fp', e = .returned (.slice (some ⟨g', 0, none⟩) ds.length c') /\ (tWrS 86).Mine w' [.slice (some ⟨g', 0, none⟩) ds.length c'] ds fp' /\ (∀ b ∈ fp', b ∈ fp) /\ Turned fp w w'
theorem delete8_any (w : World) (g cap : Nat) (ds : List EntD) (fp : List Nat) (hd : (tWrS 86).Mine w [.slice (some ⟨g, 0, none⟩) ds.length cap] ds fp) (ha : Asc8 ds) (t : Int) (k : Nat) (ys : List Int) (hk : ds[k]? = some (t, ys)) (hat : at8 ds t = (k : Int)) (S : Nat) (hS : w.cell? ⟨S, 0, none⟩ = some (.int .i64 t)) (hSl : S < w.heap.size) (hSf : S ∉ fp) (hl : ds.length <= 500000) :
 Calls Tryz.prog 147 #[.slice (some ⟨g, 0, none⟩) ds.length cap, .func (Fn.func 149) #[] #[.pointer (some ⟨S, 0, none⟩)]] w fun e w' => Deleted (ds.take k ++ ds.drop (k + 1)) fp w e w' := by
 have hrd := hd.rd
 have hkl := (List.getElem?_eq_some_iff.1 hk).1
 have hlt := hd.lt
 have hnd := hd.2
 rcases hd.1 with ⟨h1, _⟩ | ⟨g', cap', cur, fps, h1, h2, h3, h4, h5, h6, h7, h8⟩
 . simp at h1
 simp only [List.cons.injEq, Value.slice.injEq, Option.some.injEq, Addr.mk.injEq, and_true, true_and] at h1
 obtain ⟨rfl, rfl⟩ := h1
 have h5' : cur.size = cap * 2 := h5
 have hgf : g ∈ fp := by rw [h6]; exact List.mem_cons_self
 have hSg : S ≠ g := fun e => hSf (e ▸ hgf)
 have hgl := hlt g hgf
 have H8 : Hid (∀ i y, ds[i]? = some y -> ∃ f, fps[i]? = some f /\ tWr.ow w ((cur.toList.drop (i * 2)).take 2) y f) := h8
 have HC : Hid (∀ (i : Nat) (d : EntD), ds[i]? = some d -> ∃ (a : Option Addr) (c : Nat), cur[i * 2]? = some (.int .i64 d.1) /\ cur[i * 2 + 1]? = some (.slice a d.2.length c)) := fun i d hi => by
  obtain ⟨fps', _, _, _, e4⟩ := ents_open hd
  obtain ⟨f, g2, a, c, _, hg2, _, _, _, v0, v1, _⟩ := e4 i d hi
  simp only [Option.some.injEq, Addr.mk.injEq, and_true] at hg2
  subst hg2
  rw [cell_of_row w g _ cur 86 (0, 0) h4] at v0 v1
  exact ⟨a, c, v0, v1⟩
 have HASC := hidden ha
 have HK := hidden hk
 have HND := hidden hnd
 have H4 := hidden h4
 have H6 := hidden h6
 clear h8 hk hd hnd ha h4 h6
 go_enter Tryz.func147, Tryz.ntmps147
 go_wp2_with fail
 refine (index8_any _ 86 _ _ _ ds t S hrd (by omega) hS hSl).mono ?_
 rintro e w1 ⟨rfl, b1⟩
 rw [hat]
 have z1 := b1.size
 have G1 : Hid (w1.heap[g]? = some (.cells cur 86 (0, 0))) := by unfold Hid; rw [b1.block g hgl]; exact H4.out
 have T1 : Hid (Turned [g] w w1) := Turned.ofBelow b1 [g]
 clear b1 hrd hat
 have hne : ((k : Int) == -1) = false := by simp
 have zr : ∀ w, (zeroValue 86).run Tryz.prog w = .ok (.agg #[.int .i64 0, .slice none 0 0]) w := fun w => by kernel_rfl
 go_wp2
 go_loopw [5, 6] (fun iv jv wr => ∃ (i : Nat) (c' : Array Value), i + 1 <= ds.length /\ iv = .int .i64 i /\ jv = .int .i64 ((i + 1 : Nat) : Int) /\ k <= i /\ wr.heap[g]? = some (.cells c' 86 (0, 0)) /\ Shift cur k i c' /\ Turned [g] w wr) (fun _ jv _ => ds.length - (intOf jv).toNat)
 case atStart => exact ⟨k, cur, by omega, rfl, by go_num, Nat.le_refl _, G1.out, ⟨rfl, fun q => by rw [if_neg (by omega)]⟩, T1.out⟩
 case round =>
  obtain ⟨i, c', hi, rfl, rfl, hki, hG, hSh, hT⟩ := hrel
  have hcS := (cell_kept (hT.block S hSl (by simp [hSg])) 0).trans hS
  have hzr := hT.size
  by_cases hlt2 : i + 1 < ds.length
  . have hdj : ds[i + 1]? = some (ds[i + 1]'hlt2) := List.getElem?_eq_getElem hlt2
    generalize ds[i + 1]'hlt2 = d at hdj
    obtain ⟨a1, c1, hv0, hv1⟩ := HC.out (i + 1) d hdj
    have hne2 : ¬ d.1 = t := fun e => by have := HASC.out.1 k (i + 1) _ d (by omega) HK.out hdj; have h9 : t < d.1 := this; omega
    obtain ⟨y, zs⟩ := d
    simp only at hv0 hv1 hne2
    have x0 : wr.cell? ⟨g, (i + 1) * 2, none⟩ = some (.int .i64 y) := by rw [cell_of_row wr g _ c' _ (0, 0) hG, hSh.2, if_neg (by omega)]; exact hv0
    have x1 : wr.cell? ⟨g, (i + 1) * 2 + 1, none⟩ = some (.slice a1 zs.length c1) := by rw [cell_of_row wr g _ c' _ (0, 0) hG, hSh.2, if_neg (by omega)]; exact hv1
    have HNX := hidden (hSh.next hki hv0 hv1)
    have hcs' := hSh.1
    have hw0 : (i + 1) * 2 + 1 < cur.size := (Array.getElem?_eq_some_iff.1 hv1).1
    have BN := new_below wr (.cells #[.int .i64 y, .slice a1 zs.length c1] 86)
    have XB := Box.new wr 86 #[.int .i64 y, .slice a1 zs.length c1]
    have zXB := XB.lt
    have b0 : (wr.alloc (.cells #[.int .i64 y, .slice a1 zs.length c1] 86)).cell? ⟨wr.heap.size, 0, none⟩ = some (.int .i64 y) := XB.cell 0
    have b1 : (wr.alloc (.cells #[.int .i64 y, .slice a1 zs.length c1] 86)).cell? ⟨wr.heap.size, 1, none⟩ = some (.slice a1 zs.length c1) := XB.cell 1
    have hcS2 := (BN.cell (p := ⟨S, 0, none⟩) (show S < wr.heap.size by omega)).trans hcS
    have k1 : (0 : Int) <= ((i + 1 : Nat) : Int) := by omega
    have k2 : ((i + 1 : Nat) : Int) < (ds.length : Int) := by omega
    have k3 : (0 : Int) <= (i : Int) := by omega
    have k4 : (i : Int) < (ds.length : Int) := by omega
    have HG := hidden hG
    have HT := hidden hT
    have HBN := hidden BN
    clear hv0 hv1 hG hSh hT hcS BN XB
    generalize hi1 : i + 1 = j at x0 x1 k1 k2 hlt2 hi hw0 hdj HNX ⊢
    have HI1 := hidden hi1
    clear hi1
    go_wp2_with fail
    refine (without1_any _ _ t _ _ _ S hcS2 (by simp; omega)).mono ?_
    rintro e w2 ⟨rfl, b2⟩
    have hd0 : decide (y = t) = false := by simpa using hne2
    have z2 := b2.size
    have c20 := (b2.cell (p := ⟨wr.heap.size, 0, none⟩) zXB).trans b0
    have c21 := (b2.cell (p := ⟨wr.heap.size, 1, none⟩) zXB).trans b1
    have hgw : g < wr.heap.size := by omega
    have hG2 : w2.heap[g]? = some (.cells c' 86 (0, 0)) := by rw [b2.block g (by simp; omega), HBN.out.block g hgw]; exact HG.out
    have y0 := cell_of_row w2 g (i * 2) c' _ (0, 0) hG2
    have y1 := cell_of_row w2 g (i * 2 + 1) c' _ (0, 0) hG2
    have l0 : i * 2 < c'.size := by have := HI1.out; omega
    have l1 : i * 2 + 1 < c'.size := by have := HI1.out; omega
    rw [Array.getElem?_eq_getElem l0] at y0
    rw [Array.getElem?_eq_getElem l1] at y1
    generalize c'[i * 2] = o0 at y0
    generalize c'[i * 2 + 1] = o1 at y1
    have fz : ∀ q, w2.frozen? ⟨g, q, none⟩ = false := fun q => frozen_of_row w2 g q c' _ hG2
    have T2 : Hid (Turned [g] w ((w2.setCell ⟨g, i * 2, none⟩ (.int .i64 y)).setCell ⟨g, i * 2 + 1, none⟩ (.slice a1 zs.length c1))) := by
     have ta : Turned [g] w w2 := HT.out.trans (Turned.ofBelow (Below.andThen HBN.out b2) [g])
     exact (ta.trans (Turned.setCell _ (by simp))).trans (Turned.setCell _ (by simp))
    have G2 : Hid (((w2.setCell ⟨g, i * 2, none⟩ (.int .i64 y)).setCell ⟨g, i * 2 + 1, none⟩ (.slice a1 zs.length c1)).heap[g]? = some (.cells ((c'.setIfInBounds (i * 2) (.int .i64 y)).setIfInBounds (i * 2 + 1) (.slice a1 zs.length c1)) 86 (0, 0))) := heap_setCell_same _ g _ _ _ _ (heap_setCell_same w2 g _ c' _ _ hG2)
    clear b2 hG2 HG HT HBN hne2 b0 b1 x0 x1 hdj
    go_wp2
    go_roundw
    case rel => exact ⟨j, _, hlt2, by have := HI1.out; go_num, by have := HI1.out; go_num, by have := HI1.out; omega, G2.out, HNX.out, T2.out⟩
    case measure => simp [intOf]; have := HI1.out; omega
  . have e : i + 1 = ds.length := by omega
    have hil : i < ds.length := by omega
    have hci : ¬ cap = i := by omega
    have e1 : ds.length - i = 1 := by omega
    have y0 := cell_of_row wr g (i * 2) c' _ (0, 0) hG
    have y1 := cell_of_row wr g (i * 2 + 1) c' _ (0, 0) hG
    have hcs' := hSh.1
    have l0 : i * 2 < c'.size := by omega
    have l1 : i * 2 + 1 < c'.size := by omega
    rw [Array.getElem?_eq_getElem l0] at y0
    rw [Array.getElem?_eq_getElem l1] at y1
    have fz : ∀ q, wr.frozen? ⟨g, q, none⟩ = false := fun q => frozen_of_row wr g q c' _ hG
    have hclr : ∀ ty, (Builtin.clear_ #[83] ty #[.slice (some ⟨g, i * 2, none⟩) (ds.length - i) (cap - i)]).run Tryz.prog wr = .ok (.tuple #[]) ((wr.setCell ⟨g, i * 2, none⟩ (.int .i64 0)).setCell ⟨g, i * 2 + 1, none⟩ (.slice none 0 0)) := fun ty => by
     rw [e1]
     exact clear_one wr 83 86 ty (.agg #[.int .i64 0, .slice none 0 0]) (.int .i64 0) (.slice none 0 0) Tryz.underlying83 zr rfl rfl rfl g (i * 2) (cap - i) _ _ y0 y1 fz
    have HF : Hid (Deleted (ds.take k ++ ds.drop (k + 1)) fp w (.returned (.slice (some ⟨g, 0, none⟩) i cap)) ((wr.setCell ⟨g, i * 2, none⟩ (.int .i64 0)).setCell ⟨g, i * 2 + 1, none⟩ (.slice none 0 0))) := by
     have hlen : (ds.take k ++ ds.drop (k + 1)).length = i := by simp; omega
     have T2 : Turned [g] w ((wr.setCell ⟨g, i * 2, none⟩ (.int .i64 0)).setCell ⟨g, i * 2 + 1, none⟩ (.slice none 0 0)) := (hT.trans (Turned.setCell _ (by simp))).trans (Turned.setCell _ (by simp))
     have G2 : ((wr.setCell ⟨g, i * 2, none⟩ (.int .i64 0)).setCell ⟨g, i * 2 + 1, none⟩ (.slice none 0 0)).heap[g]? = some (.cells ((c'.setIfInBounds (i * 2) (.int .i64 0)).setIfInBounds (i * 2 + 1) (.slice none 0 0)) 86 (0, 0)) := heap_setCell_same _ g _ _ _ _ (heap_setCell_same wr g _ c' _ _ hG)
     have hM := del_row (k := k) hkl h2 h3 h5' h7 H8.out (by rw [← H6.out]; exact HND.out) (fun b hb => hlt b (by rw [H6.out]; exact List.mem_cons_of_mem _ hb)) (c' := (c'.setIfInBounds (i * 2) (.int .i64 0)).setIfInBounds (i * 2 + 1) (.slice none 0 0)) (by simpa using hcs') (fun q hq => by
      rw [Array.getElem?_setIfInBounds, if_neg (by omega), Array.getElem?_setIfInBounds, if_neg (by omega), hSh.2 q]
      by_cases hqk : q < k * 2
      . rw [if_neg (by omega), if_pos hqk]
      . rw [if_pos (by omega), if_neg hqk]) G2 T2
     refine ⟨g, cap, _, by rw [hlen], hM, fun b hb => ?_, T2.mono (fun b hb => by simp at hb; rw [hb]; exact hgf)⟩
     rw [H6.out]
     rcases List.mem_cons.1 hb with rfl | hb
     . exact List.mem_cons_self
     . refine List.mem_cons_of_mem _ ?_
       simp only [List.flatten_append, List.mem_append] at hb
       rcases hb with hb | hb
       . exact (runs_sub (List.take_sublist _ _)).subset hb
       . exact (runs_sub (List.drop_sublist _ _)).subset hb
    have k2 : ¬ ((i + 1 : Nat) : Int) < (ds.length : Int) := by omega
    have k3 : (0 : Int) <= (i : Int) := by omega
    have k4 : (i : Int) <= (ds.length : Int) := by omega
    have k5 : (ds.length : Int) <= (cap : Int) := by omega
    have k6 : (i : Int) <= (cap : Int) := by omega
    generalize c'[i * 2] = o0 at y0
    generalize c'[i * 2 + 1] = o1 at y1
    clear hG hSh hT hcS e e1
    generalize i + 1 = j at k2 ⊢
    go_wp2
    go_ret
    exact HF.out

def Without (ds : List EntD) (fd : List Nat) (w : World) (e : Ending) (w' : World) : Prop :=
 ∃ g' c' fp', e = .returned (.slice (some ⟨g', 0, none⟩) ds.length c') /\ (tWrS 86).Mine w' [.slice (some ⟨g', 0, none⟩) ds.length c'] ds fp' /\ (∀ b ∈ fp', b ∈ fd ∨ w.heap.size <= b) /\ Turned fd w w'
theorem without8_any (w : World) (g cd : Nat) (ds : List EntD) (fd : List Nat) (hd : (tWrS 86).Mine w [.slice (some ⟨g, 0, none⟩) ds.length cd] ds fd) (ha : Asc8 ds) (t : Int) (k : Nat) (ys : List Int) (hk : ds[k]? = some (t, ys)) (hat : at8 ds t = (k : Int)) (hl : ds.length <= 500000) :
 Calls Tryz.prog 83 #[.slice (some ⟨g, 0, none⟩) ds.length cd, .int .i64 t] w fun e w' => Without (ds.take k ++ ds.drop (k + 1)) fd w e w' := by
 have hA := new_below w (.cells #[.int .i64 t] 3)
 have X0 := Box.new w 3 #[.int .i64 t]
 have zX := X0.lt
 have d0 := hidden (hd.below hA)
 have hlt := hd.lt
 have HASC := hidden ha
 have HK := hidden hk
 have HAT := hidden hat
 have hmf : ∀ (fn : Fn) (first cap : Array Value) (w : World), (Instr.makeFunc fn first cap).run Tryz.prog w = .ok (.func fn first cap) w := fun _ _ _ _ => rfl
 clear hd ha hk hat
 go_enter Tryz.func83, Tryz.ntmps83
 go_wp2_with fail
 generalize w.alloc (.cells #[.int .i64 t] 3) = W at hA X0 zX d0 ⊢
 refine (clone_any _ g cd ds fd d0.out hl).mono ?_
 rintro e w1 ⟨g1, c1, fp1, rfl, m1, n1, b1⟩
 have X1 := X0.below b1 zX
 have hS : w1.cell? ⟨w.heap.size, 0, none⟩ = some (.int .i64 t) := X1.cell 0
 have z1 := b1.size
 have zA := hA.size
 have hSf : w.heap.size ∉ fp1 := fun hm => by
  rcases n1 _ hm with h | h
  . have := hlt _ h.1; omega
  . omega
 have HD := hidden (delete8_any w1 g1 c1 ds fp1 m1 HASC.out t k ys HK.out HAT.out w.heap.size hS X1.lt hSf hl)
 have HB := hidden (Below.andThen hA b1)
 have HN1 := hidden n1
 clear X0 X1 m1 n1 b1 d0 hA hS hSf
 go_wp2_with fail
 refine HD.out.mono ?_
 rintro e w2 ⟨g2, c2, fp2, rfl, m2, n2, t2⟩
 have HF : Hid (Without (ds.take k ++ ds.drop (k + 1)) fd w (.returned (.slice (some ⟨g2, 0, none⟩) (ds.take k ++ ds.drop (k + 1)).length c2)) w2) := by
  refine ⟨g2, c2, fp2, rfl, m2, fun b hb => ?_, ?_⟩
  . rcases HN1.out b (n2 b hb) with h | h
    . exact .inl h.1
    . exact .inr (by omega)
  . refine ⟨t2.os.trans HB.out.os, t2.tape.trans HB.out.tape, t2.output.trans HB.out.output, Nat.le_trans HB.out.size t2.size, fun q hq hf => ?_⟩
    rw [t2.block q (by have := HB.out.size; omega) (fun hm => by
     rcases HN1.out q hm with h | h
     . exact hf h.1
     . omega), HB.out.block q hq]
 clear m2 n2 t2 HD
 generalize (ds.take k ++ ds.drop (k + 1)).length = l at HF ⊢
 go_wp2
 go_ret
 exact HF.out

theorem spot_block {n s t i : Int} : spotB n s t i = true ↔ ∃ b, blockB n s b = true /\ stripeN n s b = t /\ indexN n s b = i := by
 constructor
 . intro h
   unfold spotB at h
   rw [Bool.and_eq_true, stripeB_of, inB_iff] at h
   obtain ⟨⟨hg, h1, h2⟩, h3, h4⟩ := h
   obtain ⟨g1, g2, g3, g4⟩ := geoB_iff.1 hg
   have hb : blockB n s (t * (n - 1) + i) = true := by
    rw [blockB_of, blocksN_of hg]
    have : n = 3 ∨ n = 4 ∨ n = 5 := by omega
    rcases this with rfl | rfl | rfl <;> omega
   refine ⟨t * (n - 1) + i, hb, ?_, ?_⟩
   . unfold stripeN
     rw [if_pos hb]
     have : n = 3 ∨ n = 4 ∨ n = 5 := by omega
     rcases this with rfl | rfl | rfl <;> omega
   . unfold indexN
     rw [if_pos hb]
     have : n = 3 ∨ n = 4 ∨ n = 5 := by omega
     rcases this with rfl | rfl | rfl <;> omega
 . rintro ⟨b, hb, rfl, rfl⟩
   have hg := blockB_geo hb
   have hb' := blockB_of.1 hb
   rw [blocksN_of hg] at hb'
   obtain ⟨g1, g2, g3, g4⟩ := geoB_iff.1 hg
   unfold spotB
   rw [Bool.and_eq_true, stripeB_of, inB_iff]
   unfold stripeN indexN
   rw [if_pos hb, if_pos hb]
   have : n = 3 ∨ n = 4 ∨ n = 5 := by omega
   rcases this with rfl | rfl | rfl <;> exact ⟨⟨hg, by omega⟩, by omega⟩

theorem block_at {n s b : Int} (hb : blockB n s b = true) : blockN n s (stripeN n s b) (indexN n s b) = b := by
 have h := spot_block.2 ⟨b, hb, rfl, rfl⟩
 unfold blockN
 rw [if_pos h]
 obtain ⟨g1, g2, g3, g4⟩ := geoB_iff.1 (blockB_geo hb)
 have hb' := blockB_of.1 hb
 unfold stripeN indexN
 rw [if_pos hb, if_pos hb]
 have : n = 3 ∨ n = 4 ∨ n = 5 := by omega
 rcases this with rfl | rfl | rfl <;> omega

theorem implBlockAt_any (w : World) (n s t i : Int) : Calls Tryz.prog 235 #[.agg #[.int .i64 n, .int .i64 s], .int .i64 t, .int .i64 i] w fun e w' => e = .returned (.int .i64 (blockN n s t i)) /\ Below w.heap.size w w' := by
 have hA : Below w.heap.size w ((w.alloc (.cells #[.int .i64 n, .int .i64 s] 25)).alloc (.cells #[.int .i64 t, .int .i64 i] 135)) := (new_below w _).alloc (by simp) _
 have X : Gbox ((w.alloc (.cells #[.int .i64 n, .int .i64 s] 25)).alloc (.cells #[.int .i64 t, .int .i64 i] 135)) w.heap.size 25 n s := (Gbox.new w 25 n s).below (new_below _ _) (by simp)
 have Y : Gbox ((w.alloc (.cells #[.int .i64 n, .int .i64 s] 25)).alloc (.cells #[.int .i64 t, .int .i64 i] 135)) (w.heap.size + 1) 135 t i := by
  have := Gbox.new (w.alloc (.cells #[.int .i64 n, .int .i64 s] 25)) 135 t i
  simpa using this
 obtain ⟨k0, k1⟩ := X.cells
 obtain ⟨x0, x1⟩ := (Gbox.new w 25 n s).cells
 go_enter Tryz.func235, Tryz.ntmps235
 go_wp2_with fail
 refine (implBlocks_any _ _ _).mono ?_
 rintro e w1 ⟨rfl, b1⟩
 have hz : w.heap.size + 1 < ((w.alloc (.cells #[.int .i64 n, .int .i64 s] 25)).alloc (.cells #[.int .i64 t, .int .i64 i] 135)).heap.size := by simp
 have X1 := X.below b1 (by omega)
 have Y1 := Y.below b1 hz
 have B1 := hA.trans (b1.mono hA.size)
 have hr := blocksN_range n s
 obtain ⟨nb, hnb⟩ := Int.eq_ofNat_of_zero_le hr.1
 have HNB := hidden hnb
 rw [hnb] at hr ⊢
 clear k0 k1 x0 x1 X Y hA b1 hz hnb
 go_wp2_with fail
 go_loopw [14] (fun c wr => ∃ j : Nat, j <= nb /\ c = .int .i64 j /\ (∀ k : Nat, k < j -> ¬ (stripeN n s k = t /\ indexN n s k = i)) /\ Gbox wr w.heap.size 25 n s /\ Gbox wr (w.heap.size + 1) 135 t i /\ Below w.heap.size w wr) (fun c _ => nb - (intOf c).toNat)
 case atStart => exact ⟨0, Nat.zero_le _, rfl, by omega, X1, Y1, B1⟩
 case round =>
  obtain ⟨j, hj, rfl, hk, X2, Y2, B2⟩ := hrel
  have HK := hidden hk
  clear hk X1 Y1 B1
  by_cases hlt : j < nb
  . have hb : blockB n s j = true := blockB_of.2 ⟨by omega, by rw [HNB.out]; omega⟩
    have HBA := hidden (block_at hb)
    obtain ⟨k0, k1⟩ := X2.cells
    obtain ⟨j0, j1⟩ := Y2.cells
    generalize hS : stripeN n s j = S at HBA HK
    generalize hI : indexN n s j = I at HBA HK
    have HP : ∀ W : World, Calls Tryz.prog 139 #[.agg #[.int .i64 n, .int .i64 s], .int .i64 (j : Int)] W fun e w' => e = .returned (.agg #[.int .i64 S, .int .i64 I]) /\ Below W.heap.size W w' := by
     intro W
     rw [← hS, ← hI]
     exact placeOf_any _ _ _ _
    have HS := hidden hS
    have HI := hidden hI
    clear hS hI
    by_cases h1 : S = t
    . by_cases h2 : I = i
      . subst h1 h2
        go_wp2_with fail
        go_region_held3 (fun w' => w'.cell? ⟨w.heap.size, 0, none⟩ = some (.int .i64 n) /\ w'.cell? ⟨w.heap.size, 1, none⟩ = some (.int .i64 s) /\ w'.cell? ⟨w.heap.size + 1, 0, none⟩ = some (.int .i64 S) /\ w'.cell? ⟨w.heap.size + 1, 1, none⟩ = some (.int .i64 I))
         (first | (exact ⟨X3.cells.1, X3.cells.2, Y3.cells.1, Y3.cells.2⟩) | (exact ⟨k0, k1, j0, j1⟩) | go_keep)
         (first
          | (go_at_call 139; refine (HP _).mono ?_; rintro e w3 ⟨rfl, b3⟩; have B3 := Below.andThen B2.drew b3; have X3 := X2.drew.below b3 X2.lt; have Y3 := Y2.drew.below b3 Y2.lt))
        go_wp2
        go_ret
        exact ⟨ret_int HBA.out.symm, B3⟩
      . have n2 : (I == i) = false := by simpa using h2
        subst h1
        go_wp2_with fail
        go_region_held3 (fun w' => w'.cell? ⟨w.heap.size, 0, none⟩ = some (.int .i64 n) /\ w'.cell? ⟨w.heap.size, 1, none⟩ = some (.int .i64 s) /\ w'.cell? ⟨w.heap.size + 1, 0, none⟩ = some (.int .i64 S) /\ w'.cell? ⟨w.heap.size + 1, 1, none⟩ = some (.int .i64 i))
         (first | (exact ⟨X3.cells.1, X3.cells.2, Y3.cells.1, Y3.cells.2⟩) | (exact ⟨k0, k1, j0, j1⟩) | go_keep)
         (first
          | (go_at_call 139; refine (HP _).mono ?_; rintro e w3 ⟨rfl, b3⟩; have B3 := Below.andThen B2.drew b3; have X3 := X2.drew.below b3 X2.lt; have Y3 := Y2.drew.below b3 Y2.lt))
        go_wp2
        go_roundw
        case rel => exact ⟨j + 1, by omega, by go_num, fun k hk h => by
         by_cases hkj : k < j
         . exact HK.out k hkj h
         . have : k = j := by omega
           subst this
           exact h2 (HI.out ▸ h.2), X3, Y3, B3⟩
        case measure => simp [intOf]; omega
    . have n1 : (S == t) = false := by simpa using h1
      go_wp2_with fail
      go_region_held3 (fun w' => w'.cell? ⟨w.heap.size, 0, none⟩ = some (.int .i64 n) /\ w'.cell? ⟨w.heap.size, 1, none⟩ = some (.int .i64 s) /\ w'.cell? ⟨w.heap.size + 1, 0, none⟩ = some (.int .i64 t) /\ w'.cell? ⟨w.heap.size + 1, 1, none⟩ = some (.int .i64 i))
       (first | (exact ⟨X3.cells.1, X3.cells.2, Y3.cells.1, Y3.cells.2⟩) | (exact ⟨k0, k1, j0, j1⟩) | go_keep)
       (first
        | (go_at_call 139; refine (HP _).mono ?_; rintro e w3 ⟨rfl, b3⟩; have B3 := Below.andThen B2.drew b3; have X3 := X2.drew.below b3 X2.lt; have Y3 := Y2.drew.below b3 Y2.lt))
      go_wp2
      go_roundw
      case rel => exact ⟨j + 1, by omega, by go_num, fun k hk h => by
       by_cases hkj : k < j
       . exact HK.out k hkj h
       . have : k = j := by omega
         subst this
         exact h1 (HS.out ▸ h.1), X3, Y3, B3⟩
      case measure => simp [intOf]; omega
  . go_wp2
    go_ret
    have e : j = nb := by omega
    subst e
    refine ⟨ret_int ?_, B2⟩
    unfold blockN
    rw [if_neg]
    intro h
    obtain ⟨b, hb, h1, h2⟩ := spot_block.1 h
    obtain ⟨hb0, hb1⟩ := blockB_of.1 hb
    obtain ⟨b, rfl⟩ := Int.eq_ofNat_of_zero_le hb0
    rw [HNB.out] at hb1
    exact HK.out b (by omega) ⟨h1, h2⟩

theorem blockN_ok {n s t i : Int} (h : spotB n s t i = true) : 0 <= blockN n s t i := by
 unfold blockN
 rw [if_pos h]
 unfold spotB at h
 rw [Bool.and_eq_true, stripeB_of, inB_iff] at h
 obtain ⟨⟨hg, h1, h2⟩, h3, h4⟩ := h
 obtain ⟨g1, g2, g3, g4⟩ := geoB_iff.1 hg
 have : n = 3 ∨ n = 4 ∨ n = 5 := by omega
 rcases this with rfl | rfl | rfl <;> omega

theorem spotB_of {n s t i : Int} : spotB n s t i = true ↔ geoB n s = true /\ 0 <= t /\ t < s /\ 0 <= i /\ i <= n - 2 := by
 unfold spotB
 rw [Bool.and_eq_true, stripeB_of, inB_iff]
 constructor
 . rintro ⟨⟨a, b, c⟩, d, e⟩
   exact ⟨a, b, c, d, e⟩
 . rintro ⟨a, b, c, d, e⟩
   exact ⟨⟨a, b, c⟩, d, e⟩

theorem implDiskOf_any (w : World) (n s t i : Int) : Calls Tryz.prog 192 #[.agg #[.int .i64 n, .int .i64 s], .int .i64 t, .int .i64 i] w fun e w' => e = .returned (.int .i64 (diskN n s t i)) /\ Below w.heap.size w w' := by
 have hA := new_below w (.cells #[.int .i64 n, .int .i64 s] 25)
 have X := Gbox.new w 25 n s
 obtain ⟨k0, k1⟩ := X.cells
 have zA := X.lt
 go_enter Tryz.func192, Tryz.ntmps192
 go_wp2_with fail
 refine (implBlockAt_any _ _ _ _ _).mono ?_
 rintro e w1 ⟨rfl, b1⟩
 have X1 := X.below b1 zA
 have B1 := Below.andThen hA b1
 clear k0 k1 X b1 hA zA
 obtain ⟨k0, k1⟩ := X1.cells
 by_cases hs : spotB n s t i = true
 . have h0 := blockN_ok hs
   obtain ⟨hg, h1, h2, h3, h4⟩ := spotB_of.1 hs
   obtain ⟨g1, g2, g3, g4⟩ := geoB_iff.1 hg
   have hm1 : 0 <= t % n := Int.emod_nonneg _ (by omega)
   have hm2 : t % n < n := Int.emod_lt_of_pos _ (by omega)
   have HP : parN n s t = n - 1 - t % n := by unfold parN; rw [if_pos (stripeB_of.2 ⟨hg, h1, h2⟩)]
   have HPar : ∀ W : World, Calls Tryz.prog 215 #[.agg #[.int .i64 n, .int .i64 s], .int .i64 t] W fun e w' => e = .returned (.int .i64 (n - 1 - t % n)) /\ Below W.heap.size W w' := by
    intro W
    rw [← HP]
    exact implParityOf_any _ _ _ _
   have HD : Hid (diskN n s t i = (n - 1 - t % n + 1 + i) % n) := by unfold Hid diskN; rw [if_pos hs]
   clear HP
   generalize t % n = r at hm1 hm2 HPar HD
   have e0 : ¬ blockN n s t i = -1 := by omega
   have e1 : ¬ n = 0 := by omega
   have e2 : (n - 1 - r + 1 + i).tmod n = (n - 1 - r + 1 + i) % n := Int.tmod_eq_emod_of_nonneg (by omega)
   have e3 : IntKind.i64.wrap (n - 1 - r + 1) = n - 1 - r + 1 := IntWalk.i64_in _ (by omega)
   have e4 : IntKind.i64.wrap (n - 1 - r + 1 + i) = n - 1 - r + 1 + i := IntWalk.i64_in _ (by omega)
   have e5 : (blockN n s t i == -1) = false := by simpa using e0
   go_wp2_with fail
   go_region_held3 (fun w' => w'.cell? ⟨w.heap.size, 0, none⟩ = some (.int .i64 n) /\ w'.cell? ⟨w.heap.size, 1, none⟩ = some (.int .i64 s))
    (first | (exact X2.cells) | (exact X1.cells) | go_keep)
    (first
     | (go_at_call 215; refine (HPar _).mono ?_; rintro e w2 ⟨rfl, b2⟩; have B2 := Below.andThen B1.drew b2; have X2 := X1.drew.below b2 X1.lt))
   go_wp2
   go_ret
   exact ⟨ret_int HD.out.symm, B2⟩
 . have e0 : blockN n s t i = -1 := by unfold blockN; rw [if_neg hs]
   have e5 : (blockN n s t i == -1) = true := by simpa using e0
   go_wp2
   go_ret
   exact ⟨ret_int (by unfold diskN; rw [if_neg hs]), B1⟩

def wordsD (N : Nat) (p : Int) (zs : List Int) : List Int := (List.range N).map fun i : Nat => dataW (N : Int) p zs i
def wordsJ (N : Nat) (p : Int) (zs : List Int) (j : Nat) : List Int := (List.range N).map fun i : Nat => if (i : Int) = p then xorL zs else if ((i : Int) - p - 1 + (N : Int)) % (N : Int) < (j : Int) then zs.getD (((i : Int) - p - 1 + (N : Int)) % (N : Int)).toNat 0 else 0
theorem wordsJ_len (N : Nat) (p : Int) (zs : List Int) (j : Nat) : (wordsJ N p zs j).length = N := by unfold wordsJ; simp
theorem wordsJ_at {N : Nat} {p : Int} {zs : List Int} {j k : Nat} (hk : k < N) : (wordsJ N p zs j)[k]? = some (if (k : Int) = p then xorL zs else if ((k : Int) - p - 1 + (N : Int)) % (N : Int) < (j : Int) then zs.getD (((k : Int) - p - 1 + (N : Int)) % (N : Int)).toNat 0 else 0) := by
 unfold wordsJ
 rw [List.getElem?_map, List.getElem?_range hk]
 rfl
theorem words_first {N P : Nat} {zs : List Int} (hN : 3 <= N /\ N <= 5) (hP : P < N) : (List.replicate N (0 : Int)).set P (xorL zs) = wordsJ N (P : Int) zs 0 := by
 apply List.ext_getElem?
 intro k
 by_cases hk : k < N
 . rw [wordsJ_at hk]
   by_cases e : k = P
   . subst e
     rw [List.getElem?_set_self (by simpa using hk), if_pos rfl]
   . have h1 : ¬ ((k : Int) - (P : Int) - 1 + (N : Int)) % (N : Int) < ((0 : Nat) : Int) := by
      have := Int.emod_nonneg ((k : Int) - (P : Int) - 1 + (N : Int)) (show (N : Int) ≠ 0 by omega)
      omega
     rw [List.getElem?_set_ne (by omega), if_neg (by omega), if_neg h1, List.getElem?_replicate, if_pos hk]
 . rw [List.getElem?_eq_none (by simp; omega), List.getElem?_eq_none (by rw [wordsJ_len]; omega)]
theorem words_next {N P D j : Nat} {zs : List Int} (hN : 3 <= N /\ N <= 5) (hP : P < N) (hj : j + 1 < N) (hD : (D : Int) = ((P : Int) + 1 + (j : Int)) % (N : Int)) : (wordsJ N (P : Int) zs j).set D (zs.getD j 0) = wordsJ N (P : Int) zs (j + 1) := by
 have hDN : D < N := by
  have := Int.emod_lt_of_pos ((P : Int) + 1 + (j : Int)) (show (0 : Int) < (N : Int) by omega)
  omega
 apply List.ext_getElem?
 intro k
 by_cases hk : k < N
 . rw [wordsJ_at hk]
   by_cases e : k = D
   . subst e
     have h1 : ((k : Int) - (P : Int) - 1 + (N : Int)) % (N : Int) = (j : Int) /\ ¬ (k : Int) = (P : Int) := by
      obtain ⟨n1, n2⟩ := hN
      have : N = 3 ∨ N = 4 ∨ N = 5 := by omega
      rcases this with rfl | rfl | rfl <;> omega
     rw [List.getElem?_set_self (by rw [wordsJ_len]; exact hk), if_neg h1.2, h1.1, if_pos (by omega), Int.toNat_natCast]
   . rw [List.getElem?_set_ne (fun h => e h.symm), wordsJ_at hk]
     by_cases e2 : (k : Int) = (P : Int)
     . rw [if_pos e2, if_pos e2]
     . rw [if_neg e2, if_neg e2]
       have h1 : ¬ ((k : Int) - (P : Int) - 1 + (N : Int)) % (N : Int) = (j : Int) := by
        obtain ⟨n1, n2⟩ := hN
        have : N = 3 ∨ N = 4 ∨ N = 5 := by omega
        rcases this with rfl | rfl | rfl <;> omega
       by_cases h2 : ((k : Int) - (P : Int) - 1 + (N : Int)) % (N : Int) < (j : Int)
       . rw [if_pos h2, if_pos (by omega)]
       . rw [if_neg h2, if_neg (by omega)]
 . rw [List.getElem?_eq_none (by rw [List.length_set, wordsJ_len]; omega), List.getElem?_eq_none (by rw [wordsJ_len]; omega)]
theorem words_last {N P : Nat} {zs : List Int} (hN : 3 <= N /\ N <= 5) (hP : P < N) : wordsJ N (P : Int) zs (N - 1) = wordsD N (P : Int) zs := by
 unfold wordsJ wordsD
 apply List.map_congr_left
 intro k hk
 have hk := List.mem_range.1 hk
 unfold dataW
 by_cases e2 : (k : Int) = (P : Int)
 . rw [if_pos e2, if_pos e2]
 . rw [if_neg e2, if_neg e2]
   have h1 : ((k : Int) - (P : Int) - 1 + (N : Int)) % (N : Int) < ((N - 1 : Nat) : Int) := by
    obtain ⟨n1, n2⟩ := hN
    have : N = 3 ∨ N = 4 ∨ N = 5 := by omega
    rcases this with rfl | rfl | rfl <;> omega
   rw [if_pos h1]

theorem wordsOfData_any (w : World) (N : Nat) (s t : Int) (a : Option Addr) (cap : Nat) (zs : List Int) (hg : geoB (N : Int) s = true) (ht : inB t 0 (s - 1) = true) (hz : zs.length + 1 = N) (h5 : tIntS.Rd w [.slice a zs.length cap] zs) :
 Calls Tryz.prog 170 #[.agg #[.int .i64 (N : Int), .int .i64 s], .int .i64 t, .slice a zs.length cap] w fun e w' => ∃ b, e = .returned (.slice (some ⟨b, 0, none⟩) N N) /\ tIntS.Own w' w.heap.size w'.heap.size [.slice (some ⟨b, 0, none⟩) N N] (wordsD N (parN (N : Int) s t) zs) /\ Below w.heap.size w w' := by
 obtain ⟨i0, hi, hz0, hz1, hz2⟩ := info_parts Tryz.info3
 have hN : 3 <= N /\ N <= 5 := by
  have := geoB_iff.1 hg
  omega
 obtain ⟨P1, P2⟩ := par_in hg ht
 have hsp : ∀ j : Nat, j + 1 < N -> diskN (N : Int) s t (j : Int) = (parN (N : Int) s t + 1 + (j : Int)) % (N : Int) := fun j hj => by
  have hst : stripeB (N : Int) s t = true := by unfold stripeB; rw [hg, ht]; rfl
  have hij : inB (j : Int) 0 ((N : Int) - 2) = true := inB_iff.2 ⟨by omega, by omega⟩
  unfold diskN parN spotB
  rw [hst, hij]
  simp
 obtain ⟨P, hP⟩ := Int.eq_ofNat_of_zero_le P1
 have HSP := hidden hsp
 rw [hP] at HSP P1 P2 ⊢
 have HP := hidden hP
 clear hsp hP
 have h6 : Hid (∀ W, Below w.heap.size w W -> tIntS.Rd W [.slice a zs.length cap] zs) := fun W hb => h5.below hb
 have bA := new_below w (.cells #[.int .i64 (N : Int), .int .i64 s] 25)
 have X := Box.new w 25 #[.int .i64 (N : Int), .int .i64 s]
 obtain ⟨g0, g1⟩ := X.cells2
 have hsz : (w.alloc (.cells #[.int .i64 (N : Int), .int .i64 s] 25)).heap.size = w.heap.size + 1 := by simp
 have hb3 : i0.bytes * N <= 281474976710656 := by rw [hz2]; omega
 have hm3 : N <= maxLen := by unfold maxLen; omega
 have zX := X.lt
 have r5 := h5.below bA
 have HB0 := hidden bA
 go_enter Tryz.func170, Tryz.ntmps170
 go_wp2_with (at_make; refine wpList_make_full _ rfl _ _ 30 rfl (w.alloc (.cells #[.int .i64 (N : Int), .int .i64 s] 25)).heap.size 3 i0 (.int .i64 0) 1 Tryz.underlying30 hi hz0 hz1 _ _ _ _ N rfl rfl rfl rfl hb3 hm3 (Nat.le_refl _) ?_; intro w3 hown hgrow; have hB1 : Below (w.alloc (.cells #[.int .i64 (N : Int), .int .i64 s] 25)).heap.size (w.alloc (.cells #[.int .i64 (N : Int), .int .i64 s] 25)) w3 := (Below.refl _ _).grown hgrow (Nat.le_refl _) (by simp); have c0 := (hB1.cell (p := ⟨w.heap.size, 0, none⟩) zX).trans g0; have c1 := (hB1.cell (p := ⟨w.heap.size, 1, none⟩) zX).trans g1)
 have hO : Owns .i64 3 w3 (w.alloc (.cells #[.int .i64 (N : Int), .int .i64 s] 25)).heap.size (.slice (some ⟨(w.alloc (.cells #[.int .i64 (N : Int), .int .i64 s] 25)).heap.size, 0, none⟩) N N) (List.replicate N 0) := by
  rw [made_ints] at hown
  unfold Owns
  rw [List.length_replicate]
  exact hown
 have hO1 := hO.own
 have X3 := X.below hB1 zX
 have r3 := r5.below hB1
 have B3 := hidden (Below.andThen HB0.out hB1)
 have z3 := hB1.size
 clear hown hgrow hO bA X r5 h5 hB1 HB0 g0 g1
 rw [hsz] at hO1 z3
 obtain ⟨LB, hLB⟩ : ∃ LB, w.heap.size + 1 = LB := ⟨_, rfl⟩
 rw [hLB] at hO1 z3 ⊢
 have q0 : w.heap.size + 1 <= LB /\ LB <= w.heap.size + 1 := by omega
 clear hLB hsz zX hb3 hm3
 refine (implParityOf_any _ (N : Int) s t).mono ?_
 rintro e w4 ⟨rfl, b4⟩
 rw [HP.out]
 have X4 := X3.below b4 X3.lt
 have r4 := r3.below b4
 have o4 := hO1.below b4
 have B4 := hidden (Below.andThen B3.out b4)
 have z4 := b4.size
 clear X3 r3 hO1 B3 b4 c0 c1
 go_wp2_with fail
 refine (implParityWord_any _ _ _ _ zs rfl (ints_rd r4).1 (by omega)).mono ?_
 rintro e w5 ⟨rfl, s5⟩
 have X5 := X4.same s5
 have r5 := r4.same s5
 have o5 := o4.same s5
 have B5 := Below.andSame B4.out s5
 have z5 := s5.size
 clear X4 r4 o4 B4 s5
 obtain ⟨hcy, hfy, hst, hbt⟩ := o5.store P (by omega) (xorL zs)
 rw [words_first hN (by omega)] at hst
 have X6 : Box (w5.setCell ⟨LB, P, none⟩ (.int .i64 (xorL zs))) w.heap.size 25 #[.int .i64 (N : Int), .int .i64 s] := X5.other (by omega) P _
 have B6 : Below w.heap.size w (w5.setCell ⟨LB, P, none⟩ (.int .i64 (xorL zs))) := B5.setCell (show w.heap.size <= LB by omega) _
 have r6 : tIntS.Rd (w5.setCell ⟨LB, P, none⟩ (.int .i64 (xorL zs))) [.slice a zs.length cap] zs := h6.out _ B6
 have i3 : (0 : Int) <= (P : Int) := by omega
 have i4 : (P : Int) < (N : Int) := by omega
 generalize (List.replicate N (0 : Int)).getD P 0 = old at hcy
 have HO := hidden hst
 have HX := hidden X6
 have HB6 := hidden B6
 have HR6 := hidden r6
 have hzl : (zs.length : Int) + 1 = (N : Int) := by omega
 clear X5 r5 o5 B5 hst hbt X6 B6 r6
 go_wp2
 generalize w5.setCell ⟨LB, P, none⟩ (.int .i64 (xorL zs)) = W6 at HO HX HB6 HR6 ⊢
 clear hcy hfy
 go_loopw [22] (fun i wr => ∃ j : Nat, j <= zs.length /\ i = .int .i64 j /\ Own .i64 3 wr LB w3.heap.size (.slice (some ⟨LB, 0, none⟩) N N) (wordsJ N (P : Int) zs j) /\ Box wr w.heap.size 25 #[.int .i64 (N : Int), .int .i64 s] /\ Below w.heap.size w wr) (fun i _ => zs.length - (intOf i).toNat)
 case atStart => exact ⟨0, Nat.zero_le _, rfl, HO.out, HX.out, HB6.out⟩
 case round =>
  obtain ⟨j, hj, rfl, ho, xg, hb⟩ := hrel
  by_cases hlt : j < zs.length
  . obtain ⟨g0, g1⟩ := xg.cells2
    have rr := h6.out _ hb
    rcases (ints_rd rr).1.cases with h0 | ⟨b, off, rfl, hbl, hcz⟩
    . omega
    have hcj := hcz j hlt
    have hD := HSP.out j (by omega)
    have hnx := fun D hD => words_next (N := N) (P := P) (D := D) (j := j) (zs := zs) hN (by omega) (by omega) hD
    generalize zs.getD j 0 = y at hcj hnx
    have i5 : (0 : Int) <= (j : Int) := by omega
    have i6 : (j : Int) < (zs.length : Int) := by omega
    clear hcz rr
    go_wp2_with fail
    refine (implDiskOf_any _ (N : Int) s t (j : Int)).mono ?_
    rintro e w7 ⟨rfl, b7⟩
    rw [hD]
    have q1 := Int.emod_nonneg ((P : Int) + 1 + (j : Int)) (show (N : Int) ≠ 0 by omega)
    have q2 := Int.emod_lt_of_pos ((P : Int) + 1 + (j : Int)) (show (0 : Int) < (N : Int) by omega)
    obtain ⟨D, hDD⟩ := Int.eq_ofNat_of_zero_le q1
    have hst := hnx D hDD.symm
    rw [hDD] at q2 ⊢
    have o7 := ho.below b7
    have x7 := xg.below b7 xg.lt
    have hb7 := hb.trans (b7.mono hb.size)
    obtain ⟨hcy, hfy, hs7, hbt⟩ := o7.store D (by omega) y
    rw [hst] at hs7
    have HS7 := hidden hs7
    have HX7 : Hid (Box (w7.setCell ⟨LB, D, none⟩ (.int .i64 y)) w.heap.size 25 #[.int .i64 (N : Int), .int .i64 s]) := x7.other (by omega) D _
    have HB7 : Hid (Below w.heap.size w (w7.setCell ⟨LB, D, none⟩ (.int .i64 y))) := hb7.setCell (show w.heap.size <= LB by omega) _
    generalize (wordsJ N (P : Int) zs j).getD D 0 = old2 at hcy
    have i7 : (0 : Int) <= (D : Int) := by omega
    have i8 : (D : Int) < (N : Int) := by omega
    clear ho xg hb b7 o7 x7 hb7 hs7 hbt hst hnx hD q1 hDD g0 g1
    go_wp2
    go_roundw
    case rel => exact ⟨j + 1, by omega, by go_num, HS7.out, HX7.out, HB7.out⟩
    case measure => simp [intOf]; omega
  . have ej : j = N - 1 := by omega
    have i6 : ¬ (j : Int) < (zs.length : Int) := by omega
    rw [ej, words_last hN (by omega)] at ho
    have FO := hidden ((own_ints ho.1).widen (lo' := w.heap.size) (by omega) (Nat.le_refl _))
    have FB := hidden hb
    clear ho hb xg ej
    go_wp2
    go_ret
    exact ⟨LB, rfl, FO.out, FB.out⟩

def Enters (F : FuncId) (args : Array Value) : Prop := ∀ w : World, Sem.run Tryz.prog (callFunc F args) w = .ok (.enter F args) w
theorem enters_of {F : FuncId} {fn : Func} (hf : Tryz.prog.funcs[F]? = some fn) (hn : (fn.name == "runtime.NumGoroutine") = false) (hb : fn.body.isNone = false) (args : Array Value) : Enters F args := by
 intro w
 have hb' : ¬ fn.body = none := fun h => by rw [h] at hb; cases hb
 have hn' : ¬ fn.name = "runtime.NumGoroutine" := by simpa using hn
 simp [go_sem, callFunc, hf, hn', hb']
def OpRuns (B : Nat) (fp : List Nat) (F : FuncId) (cap : Array Value) (o : DOp) (w : World) : Prop :=
 ∀ (x : ArrN) (ms : List MemD) (ds : List (Int × List Int)) (fm fd : List Nat), ArrAt w B x ms ds fm fd -> MsOk ms -> (∀ b ∈ fp, b ≠ B /\ b ∉ fm) -> o.1 < ms.length ->
  Calls Tryz.prog F cap w fun e w' => e = .returned (.tuple #[]) /\ ∃ fm', ArrAt w' B x (ms.set o.1 (opF o x (ms.getD o.1 memZ))) ds fm' fd /\ Moved B fm w fm' w'
def opOw (B : Nat) (w : World) (vs : List Value) (o : DOp) (fp : List Nat) : Prop :=
 ∃ F cap, vs = [.func (Fn.func F) #[] cap] /\ Enters F cap /\ (∀ b ∈ fp, b < w.heap.size) /\ ∀ w' : World, (∀ b ∈ fp, w'.heap[b]? = w.heap[b]?) -> w.heap.size <= w'.heap.size -> OpRuns B fp F cap o w'
abbrev opTy (B : Nat) : Ty where
 n := 1
 D := DOp
 rd := opOw B
 ow := opOw B
 owRd := fun h => h
 rdLen := fun ⟨_, _, h, _⟩ => by rw [h]; rfl
 rdLt := fun ⟨_, _, _, _, h, _⟩ => h
 rdKept := fun ⟨F, cap, h, he, hl, hr⟩ hk hs => ⟨F, cap, h, he, fun b hb => Nat.lt_of_lt_of_le (hl b hb) hs, fun w'' hk2 hs2 => hr w'' (fun b hb => (hk2 b hb).trans (hk b hb)) (Nat.le_trans hs hs2)⟩
 owKept := fun ⟨F, cap, h, he, hl, hr⟩ hk hs => ⟨F, cap, h, he, fun b hb => Nat.lt_of_lt_of_le (hl b hb) hs, fun w'' hk2 hs2 => hr w'' (fun b hb => (hk2 b hb).trans (hk b hb)) (Nat.le_trans hs hs2)⟩
abbrev tOps (B : Nat) : Ty := rowTy (opTy B) 161

abbrev goneV : Value := .iface 118 (.agg #[])
abbrev goneC : List PanicEntry := [{ v := goneV, recovered := false }]
def EndOf (y : ArrN) (e : Ending) : Prop := if y.down = true then e = .panicked goneC else e = .returned (.tuple #[])
theorem EndOf.gone {y : ArrN} (h : y.down = true) : EndOf y (.panicked goneC) := by unfold EndOf; rw [if_pos h]
theorem EndOf.fine {y : ArrN} (h : y.down = false) : EndOf y (.returned (.tuple #[])) := by unfold EndOf; rw [if_neg (by simp [h])]
def Did (w : World) (B : Nat) (fm : List Nat) (ds : List (Int × List Int)) (fd : List Nat) (q : ArrN × List MemD) (e : Ending) (w' : World) : Prop := EndOf q.1 e /\ ∃ fm', ArrAt w' B q.1 q.2 ds fm' fd /\ Moved B fm w fm' w'

theorem dop_at {w : World} {B n cap j : Nat} {bo : Option Addr} {ops : List DOp} {o : DOp} {fo : List Nat} (h : (tOps B).Mine w [.slice bo n cap] ops fo) (hj : ops[j]? = some o) :
 ∃ (g : Nat) (F : FuncId) (cp : Array Value) (fp : List Nat), bo = some ⟨g, 0, none⟩ /\ g < w.heap.size /\ w.cell? ⟨g, j, none⟩ = some (.func (Fn.func F) #[] cp) /\ Enters F cp /\ (∀ b ∈ fp, b ∈ fo) /\ ∀ w' : World, (∀ b ∈ fp, w'.heap[b]? = w.heap[b]?) -> w.heap.size <= w'.heap.size -> OpRuns B fp F cp o w' := by
 obtain ⟨h, _⟩ := h
 have hjl := (List.getElem?_eq_some_iff.1 hj).1
 rcases h with ⟨_, h2, _⟩ | ⟨b, cap', cur, fps, h1, h2, h3, h4, h5, h6, h7, h8⟩
 . rw [h2] at hjl; simp at hjl
 . simp only [List.cons.injEq, Value.slice.injEq, and_true] at h1
   obtain ⟨f, hf, F, cp, hv, he, hl, hr⟩ := h8 j o hj
   refine ⟨b, F, cp, f, h1.1, (Array.getElem?_eq_some_iff.1 h4).1, ?_, he, fun b' hb' => ?_, hr⟩
   . rw [cell_of_row w b _ cur 161 (0, 0) h4]
     have : ((cur.toList.drop (j * 1)).take 1)[0]? = some (.func (Fn.func F) #[] cp) := by rw [hv]; rfl
     rw [List.getElem?_take, if_pos (by omega), List.getElem?_drop] at this
     simpa using this
   . rw [h6]
     exact List.mem_cons_of_mem _ (List.mem_flatten.2 ⟨f, List.mem_of_getElem? hf, hb'⟩)

theorem burn_any (w : World) (B : Nat) (x : ArrN) (ms : List MemD) (ds : List (Int × List Int)) (fm fd : List Nat) (h : ArrAt w B x ms ds fm fd) (hf : x.fuse <= 1000) (hdn : x.down = false) :
 Calls Tryz.prog 169 #[.pointer (some ⟨B, 0, none⟩)] w fun e w' => EndOf (opX x) e /\ ArrAt w' B (opX x) ms ds fm fd /\ Moved B fm w fm w' := by
 obtain ⟨bm, bd, cm, cd, X, hm, hd, hr, r1, r2⟩ := h
 unfold arrC at X
 obtain ⟨k0, k1, k2, k3, k4, k5, k6, k7, k8, k9, k10, k11, k12⟩ := X.cells13
 have fz := X.frozen
 by_cases h0 : x.fuse = 0
 . have HX : Hid (opX x = {x with down := true, fuse := -1}) := by unfold Hid opX; rw [if_neg (by simp [hdn]), if_pos h0]
   have Y := (X.set 11 (.bool true)).set 10 (.int .i64 (-1))
   have M := hidden ((hm.setCell (g := B) (j := 11) r1 (.bool true)).setCell (g := B) (j := 10) r1 (.int .i64 (-1)))
   have D := hidden ((hd.setCell (g := B) (j := 11) r2 (.bool true)).setCell (g := B) (j := 10) r2 (.int .i64 (-1)))
   have MV := hidden ((Moved.set (B := B) (j := 11) (fm := fm) (w := w) (.bool true)).trans (Moved.set (B := B) (j := 10) (.int .i64 (-1))))
   have YH := hidden Y
   have HE : Hid (EndOf (opX x) (.panicked goneC)) := EndOf.gone (by rw [HX.out])
   rw [h0] at k10
   clear Y X hm hd hdn h0
   go_enter Tryz.func169, Tryz.ntmps169
   go_wp2
   refine ⟨rfl, HE.out, ?_, MV.out⟩
   rw [HX.out]; exact ⟨bm, bd, cm, cd, YH.out, M.out, D.out, hr, r1, r2⟩
 . have e0 : (x.fuse == 0) = false := by simpa using h0
   by_cases h1 : 0 < x.fuse
   . have hw : IntKind.i64.wrap (x.fuse - 1) = x.fuse - 1 := IntWalk.i64_in _ (by omega)
     have HX : Hid (opX x = {x with fuse := x.fuse - 1}) := by unfold Hid opX; rw [if_neg (by simp [hdn]), if_neg h0, if_pos h1]
     have HE : Hid (EndOf (opX x) (.returned (.tuple #[]))) := EndOf.fine (by rw [HX.out]; exact hdn)
     have YH := hidden (X.set 10 (.int .i64 (x.fuse - 1)))
     have M := hidden (hm.setCell (g := B) (j := 10) r1 (.int .i64 (x.fuse - 1)))
     have D := hidden (hd.setCell (g := B) (j := 10) r2 (.int .i64 (x.fuse - 1)))
     have MV := hidden (Moved.set (B := B) (j := 10) (fm := fm) (w := w) (.int .i64 (x.fuse - 1)))
     clear X hm hd hdn h0
     go_enter Tryz.func169, Tryz.ntmps169
     go_wp2
     refine bodyPost_end (v := .tuple #[]) (results_none rfl _ _ _) rfl ?_
     exact ⟨HE.out, by rw [HX.out]; exact ⟨bm, bd, cm, cd, YH.out, M.out, D.out, hr, r1, r2⟩, MV.out⟩
   . have HX : Hid (opX x = x) := by unfold Hid opX; rw [if_neg (by simp [hdn]), if_neg h0, if_neg h1]
     have HE : Hid (EndOf (opX x) (.returned (.tuple #[]))) := EndOf.fine (by rw [HX.out]; exact hdn)
     have YH := hidden X
     clear hdn h0 X
     go_enter Tryz.func169, Tryz.ntmps169
     go_wp2
     refine bodyPost_end (v := .tuple #[]) (results_none rfl _ _ _) rfl ?_
     exact ⟨HE.out, by rw [HX.out]; exact ⟨bm, bd, cm, cd, YH.out, hm, hd, hr, r1, r2⟩, Moved.refl _ _ _⟩

theorem perform_any (w : World) (B : Nat) (x : ArrN) (ms : List MemD) (ds : List (Int × List Int)) (fm fd : List Nat) (h : ArrAt w B x ms ds fm fd) (hf : x.fuse <= 1000) (hdn : x.down = false) (hM : MsOk ms)
 (bo : Option Addr) (co : Nat) (ops : List DOp) (fo : List Nat) (ho : (tOps B).Mine w [.slice bo ops.length co] ops fo) (hdis : ∀ b ∈ fo, b ≠ B /\ b ∉ fm) (hop : ∀ o ∈ ops, o.1 < ms.length /\ flagAt ms o.1 = false) :
 Calls Tryz.prog 116 #[.pointer (some ⟨B, 0, none⟩), .slice bo ops.length co] w (Did w B fm ds fd (runS (x, ms) ops)) := by
 have HK := hidden (fun j : Nat => runS_keeps (q := (x, ms)) hM hf (ops.take j))
 have HF := hidden (fun j k : Nat => runS_flag (x, ms) (ops.take j) k)
 have H0 := hidden h
 have hlo := ho.lt
 have hmx := (row_length ho.rd).2
 have HO := hidden ho
 have HD := hidden hdis
 have HP := hidden hop
 have HN : Hid (x.down = false) := hdn
 have zz := h.lt
 have zm := h.ltm.1
 clear h ho hdis hop hdn
 have hS : ∀ wr fm1, Moved B fm w fm1 wr -> Turned (B :: fm) w wr /\ ∀ b ∈ fm1, b ∈ fm ∨ w.heap.size <= b := fun _ _ h => h
 go_enter Tryz.func116, Tryz.ntmps116
 go_wp2
 go_loopw [8] (fun i wr => ∃ (j : Nat) (fm1 : List Nat), j <= ops.length /\ i = .int .i64 j /\ (runS (x, ms) (ops.take j)).1.down = false /\ ArrAt wr B (runS (x, ms) (ops.take j)).1 (runS (x, ms) (ops.take j)).2 ds fm1 fd /\ Moved B fm w fm1 wr) (fun i _ => ops.length - (intOf i).toNat)
 case atStart => exact ⟨0, fm, Nat.zero_le _, rfl, HN.out, H0.out, Moved.refl _ _ _⟩
 case round =>
  obtain ⟨j, fm1, hj, rfl, hdj, hA, hMv⟩ := hrel
  obtain ⟨hMj, hsj, hlj⟩ := HK.out j
  have hfj := hsj.2.2.2.2.2.2.2.2.2.1
  by_cases hjn : j < ops.length
  . have i2 : (j : Int) < (ops.length : Int) := by omega
    have i1 : (0 : Int) <= (j : Int) := by omega
    have hoj : ops[j]? = some (ops[j]'hjn) := List.getElem?_eq_getElem hjn
    obtain ⟨p1, p2⟩ := HP.out _ (List.mem_of_getElem? hoj)
    generalize ops[j]'hjn = o at hoj p1 p2
    have HS := hidden (runS_next (q := (x, ms)) hoj)
    have HE := hidden (fun h => runS_end (q := (x, ms)) (ops := ops) (j := j + 1) h)
    have hfl := (HF.out j o.1).trans p2
    generalize hst : runS (x, ms) (ops.take j) = st at hA hMj hsj hlj hfj HS hdj hfl
    obtain ⟨y, ns⟩ := st
    dsimp only at hA hMj hsj hlj hfj hdj hfl
    clear hst
    obtain ⟨g, F, cp, fp, rfl, hg, hc, hen, hfp, hrun⟩ := dop_at HO.out hoj
    have hgf : g ∈ fo := by
     obtain ⟨hh, _⟩ := HO.out
     rcases hh with ⟨h1, _⟩ | ⟨b, cap', cur, fps, h1, _, _, _, _, h6, _⟩
     . simp at h1
     . simp at h1; rw [h6, h1.1]; exact List.mem_cons_self
    have hnf : ∀ b ∈ fo, b ∉ (B :: fm) := fun b hb hm => by
     rcases List.mem_cons.1 hm with e | hm
     . exact (HD.out b hb).1 e
     . exact (HD.out b hb).2 hm
    have hcr : wr.cell? ⟨g, j, none⟩ = some (.func (Fn.func F) #[] cp) := (World.cell?_of_block (w := w) (hMv.1.block g hg (hnf g hgf))).trans hc
    have MV := hidden hMv
    have HA := hidden hA
    have HR := hidden hrun
    have HFP := hidden hfp
    have HNF := hidden hnf
    clear hA hMv hrun hfp hnf hc
    go_wp2_with fail
    refine (burn_any _ B y ns ds fm1 fd HA.out hfj hdj).mono ?_
    rintro e w1 ⟨he, hA1, hMv1⟩
    cases hob : opB y
    . have hdd := opX_no hob
      unfold EndOf at he
      rw [if_pos hdd] at he
      subst he
      have hget : ns[o.1]? = some (ns.getD o.1 memZ) := by rw [List.getD_eq_getElem?_getD, List.getElem?_eq_getElem (by omega)]; rfl
      have HV : Hid (runS (x, ms) ops = (opX y, ns)) := by
       have h9 : runS (x, ms) (ops.take (j + 1)) = (opX y, ns) := HS.out.trans (doS_no hget hfl hob)
       exact (HE.out (by rw [h9]; exact hdd)).trans h9
      have HD2 : Hid (Did w B fm ds fd (runS (x, ms) ops) (.panicked goneC) w1) := by
       unfold Hid Did
       rw [HV.out]
       exact ⟨EndOf.gone hdd, fm1, hA1, MV.out.trans hMv1⟩
      clear hA1 hMv1
      go_wp2
      exact ⟨rfl, HD2.out⟩
    . have hdd := opX_yes hob
      unfold EndOf at he
      rw [if_neg (by simp [hdd])] at he
      subst he
      have hget : ns[o.1]? = some (ns.getD o.1 memZ) := by rw [List.getD_eq_getElem?_getD, List.getElem?_eq_getElem (by omega)]; rfl
      have HV : Hid (runS (x, ms) (ops.take (j + 1)) = (opX y, ns.set o.1 (opF o (opX y) (ns.getD o.1 memZ)))) := by
       refine HS.out.trans ((doS_yes hget hfl hob).trans ?_)
       rw [opF_opX]
      have MV1 := hidden (MV.out.trans hMv1)
      have hsz := MV1.out.size
      have R1 := HR.out w1 (fun b hb => MV1.out.1.block b (hlo b (HFP.out b hb)) (HNF.out b (HFP.out b hb))) hsz (opX y) ns ds fm1 fd hA1 hMj (fun b hb => ⟨(HD.out b (HFP.out b hb)).1, fun hm => by
       rcases MV.out.2 b hm with h1 | h1
       . exact (HD.out b (HFP.out b hb)).2 h1
       . have := hlo b (HFP.out b hb); omega⟩) (by omega)
      have RH := hidden R1
      clear hA1 hMv1 R1
      have hcf : ∀ w : World, Sem.run Tryz.prog (callFunc F cp) w = .ok (.enter F cp) w := hen
      go_wp2_with fail
      refine RH.out.mono ?_
      rintro e w2 ⟨rfl, fm2, hA2, hMv2⟩
      have HB := hidden (MV1.out.trans hMv2)
      have HA2 := hidden hA2
      clear hA2 hMv2 hcr
      go_wp2
      go_roundw
      case rel => exact ⟨j + 1, fm2, by omega, by go_num, by rw [HV.out]; exact hdd, by rw [HV.out]; exact HA2.out, HB.out⟩
      case measure => simp [intOf]; omega
  . have ej : j = ops.length := by omega
    have i2 : ¬ (j : Int) < (ops.length : Int) := by omega
    subst ej
    rw [List.take_length] at hA hdj
    have HD2 : Hid (Did w B fm ds fd (runS (x, ms) ops) (.returned (.tuple #[])) wr) := ⟨EndOf.fine hdj, fm1, hA, hMv⟩
    clear hA hMv
    go_wp2
    refine bodyPost_end (v := .tuple #[]) (results_none rfl _ _ _) rfl ?_
    exact HD2.out

def Late (P : Program) (ops : Array Oper) (Q : Exit -> Act -> World -> Prop) (S : World -> Prop) (k : Nat) : Nat -> Array Bool -> Act -> World -> Prop
 | 0, l, a, w => Region.ready .any ops l = [] /\ Q .normal a w
 | n + 1, l, a, w => (Region.ready .any ops l = [] -> Q .normal a w) /\ ∀ j ∈ Region.ready .any ops l, wpOp P ops Q j (fun a' w' => (j ≠ k -> l.getD k true = false -> S w') /\ Late P ops Q S k n (l.setIfInBounds j true) a' w') a w

section
variable {P : Program} {ops : Array Oper} {Q : Exit -> Act -> World -> Prop} {S : World -> Prop} {k : Nat}

theorem Late.any : ∀ (n : Nat) (l : Array Bool) (a : Act) (w : World), Late P ops Q S k n l a w -> wpAny P .any ops Q n l a w
 | 0, _, _, _, h => h
 | n + 1, _, _, _, h => ⟨h.1, fun j hj => wpOp_mono (fun a' w' h' => Late.any n _ a' w' h'.2) (h.2 j hj)⟩

theorem Late.start {id : Nat} {a : Act} {w : World} (hm : P.follows .mixedOrders = true) (h : Late P ops Q S k ops.size (Array.replicate ops.size false) a w.drew) : (Code.region id ops true).wp P Q a w :=
 wp_region_any hm (Late.any _ _ _ _ h)

theorem Late.first {i : Nat} {oi ok : Oper} {v : Value} (hi : ops[i]? = some oi) (hk : ops[k]? = some ok) (hki : ∃ e ∈ ok.after, Region.binds .any e = true /\ e.on = i)
 (hsel : ∀ (j : Nat) (o : Oper) cs b, ops[j]? = some o -> o.op ≠ .select cs b) (hQ : ∀ c a w, Q (.panic c) (a.put oi.dst v) w -> Q (.panic c) a w) (n : Nat) :
 ∀ (l : Array Bool) (a : Act) (w : World),
  (∀ j oj, ops[j]? = some oj -> j ≠ i -> l.getD j true = false -> (∀ e ∈ oj.after, Region.binds .any e = true -> e.on ≠ i) -> oi.apart ops oj = true) ->
  l.getD k true = false -> i ∈ Region.ready .any ops l -> YieldsIf P ops S oi v a -> S w -> Late P ops Q S k n (l.setIfInBounds i true) (a.put oi.dst v) w -> Late P ops Q S k (n + 1) l a w := by
 induction n with
 | zero =>
  intro l a w _ hkl hr hy hS H
  constructor
  . intro h
    rw [h] at hr
    simp at hr
  . intro j hj
    by_cases hji : j = i
    . rw [hji]
      exact hy.wpOp hi hS ⟨fun _ _ => hS, H⟩
    . have h2 := ready_mono (i := i) hj hji
      rw [H.1] at h2
      simp at h2
 | succ n ih =>
  intro l a w hfree hkl hr hy hS H
  constructor
  . intro h
    rw [h] at hr
    simp at hr
  . intro j hj
    by_cases hji : j = i
    . rw [hji]
      exact hy.wpOp hi hS ⟨fun _ _ => hS, H⟩
    . obtain ⟨hju, oj, hoj, hall⟩ := mem_ready.1 hj
      have hiu := (mem_ready.1 hr).1
      have hno : ∀ e ∈ oj.after, Region.binds .any e = true -> e.on ≠ i := fun e he hb hon => unlisted hiu (hon ▸ hall e he hb)
      have hjk : j ≠ k := by
       intro hjk
       rw [hjk, hk] at hoj
       obtain ⟨e, he, hb, hon⟩ := hki
       cases hoj
       exact hno e he hb hon
      have h1 := H.2 j (ready_mono hj hji)
      have h2 := wpOp_putIf hoj (hfree j oj hoj hji hju hno) (fun cs b => hsel i oi cs b hi) (fun cs b => hsel j oj cs b hoj) hQ hy h1
      refine wpOp_mono ?_ h2
      intro a' w' h3
      have hik : i ≠ k := by
       intro hik
       obtain ⟨_, ok', hok', hall'⟩ := mem_ready.1 hr
       rw [hik, hk] at hok'
       obtain ⟨e, he, hb, hon⟩ := hki
       cases hok'
       exact unlisted hiu (hon ▸ hall' e he hb)
      have hS' := h3.2.1 hjk (by rw [getD_set_ne true hik]; exact hkl)
      refine ⟨fun _ _ => hS', ih _ a' w' ?_ (by rw [getD_set_ne true hjk]; exact hkl) (ready_mono hr (Ne.symm hji)) h3.1 hS' ?_⟩
      . intro m om hm hmi hun hnm
        refine hfree m om hm hmi ?_ hnm
        by_cases hjm : j = m
        . rw [← hjm]
          exact hju
        . rw [getD_set_ne true hjm] at hun
          exact hun
      . rw [Array.setIfInBounds_comm _ _ hji]
        exact h3.2.2

theorem Late.take {i : Nat} {oi : Oper} {v : Value} {n : Nat} {l : Array Bool} {a : Act} {w : World} {tl : List Oper} (hi' : ops.toList.drop i = oi :: tl)
 (hki : ((ops[k]?).map fun o => o.after.any fun e => Region.binds .any e && e.on == i) = some true) (hs : Region.noSelect ops = true) (hf : Region.free .any ops l i = true) (hr : (Region.ready .any ops l).contains i = true)
 (hQ : ∀ c a w, Q (.panic c) (a.put oi.dst v) w -> Q (.panic c) a w) (hy : YieldsIf P ops S oi v a) (hS : S w) (h : Late P ops Q S k n (l.setIfInBounds i true) (a.put oi.dst v) w) (hkl : l.getD k true = false := by kernel_rfl) : Late P ops Q S k (n + 1) l a w := by
 have hi := op_at hi'
 cases hk : ops[k]? with
 | none => rw [hk] at hki; cases hki
 | some ok =>
  rw [hk] at hki
  simp only [Option.map_some, Option.some.injEq, Array.any_eq_true', Bool.and_eq_true, beq_iff_eq] at hki
  exact Late.first hi hk hki (Region.noSelect_spec hs) hQ n l a w (Region.free_spec hi hf) hkl (by simpa using hr) hy hS h

theorem Late.one {i : Nat} {o : Oper} {n : Nat} {l : Array Bool} {a : Act} {w : World} {tl : List Oper} (hr : Region.ready .any ops l = [i]) (ho : ops.toList.drop i = o :: tl)
 (h : ∀ K' : Act -> World -> Prop, Shut (∀ a w, (i ≠ k -> S w) -> Late P ops Q S k n (l.setIfInBounds i true) a w -> K' a w) -> if Region.wanted o (yielded ops a.tmps) = true then Oper.wp P o a w K' Q else K' (a.put o.dst undef) w) : Late P ops Q S k (n + 1) l a w := by
 constructor
 . intro h0
   rw [hr] at h0
   simp at h0
 . intro j hj
   rw [hr] at hj
   simp at hj
   rw [hj]
   exact wpOp_step (op_at ho) (fun K' hK => h K' (fun a w hS hW => hK a w ⟨fun h _ => hS h, hW⟩))

theorem Late.late {i : Nat} {o : Oper} {n : Nat} {l : Array Bool} {a : Act} {w : World} {tl : List Oper} (hr : Region.ready .any ops l = [i]) (ho : ops.toList.drop i = o :: tl) (hl : l.getD k true = true)
 (h : ∀ K' : Act -> World -> Prop, Shut (∀ a w, Late P ops Q S k n (l.setIfInBounds i true) a w -> K' a w) -> if Region.wanted o (yielded ops a.tmps) = true then Oper.wp P o a w K' Q else K' (a.put o.dst undef) w) : Late P ops Q S k (n + 1) l a w := by
 constructor
 . intro h0
   rw [hr] at h0
   simp at h0
 . intro j hj
   rw [hr] at hj
   simp at hj
   rw [hj]
   exact wpOp_step (op_at ho) (fun K' hK => h K' (fun a w hW => hK a w ⟨fun _ h0 => (by rw [hl] at h0; cases h0), hW⟩))

theorem Late.two {i i' : Nat} {o o' : Oper} {n : Nat} {l : Array Bool} {a : Act} {w : World} {tl tl' : List Oper} (hr : Region.ready .any ops l = [i, i']) (ho : ops.toList.drop i = o :: tl) (ho' : ops.toList.drop i' = o' :: tl')
 (h : ∀ K' : Act -> World -> Prop, Shut (∀ a w, (i ≠ k -> S w) -> Late P ops Q S k n (l.setIfInBounds i true) a w -> K' a w) -> if Region.wanted o (yielded ops a.tmps) = true then Oper.wp P o a w K' Q else K' (a.put o.dst undef) w)
 (h' : ∀ K' : Act -> World -> Prop, Shut (∀ a w, (i' ≠ k -> S w) -> Late P ops Q S k n (l.setIfInBounds i' true) a w -> K' a w) -> if Region.wanted o' (yielded ops a.tmps) = true then Oper.wp P o' a w K' Q else K' (a.put o'.dst undef) w) : Late P ops Q S k (n + 1) l a w := by
 constructor
 . intro h0
   rw [hr] at h0
   simp at h0
 . intro j hj
   rw [hr] at hj
   simp only [List.mem_cons, List.not_mem_nil, or_false] at hj
   rcases hj with hj | hj
   . rw [hj]
     exact wpOp_step (op_at ho) (fun K' hK => h K' (fun a w hS hW => hK a w ⟨fun h _ => hS h, hW⟩))
   . rw [hj]
     exact wpOp_step (op_at ho') (fun K' hK => h' K' (fun a w hS hW => hK a w ⟨fun h _ => hS h, hW⟩))

theorem Late.done {l : Array Bool} {a : Act} {w : World} (hr : Region.ready .any ops l = []) (h : Q .normal a w) : ∀ n, Late P ops Q S k n l a w
 | 0 => ⟨hr, h⟩
 | _ + 1 => ⟨fun _ => h, by rw [hr]; simp⟩

end

theorem writeOp1_runs (w : World) (B p q y u m : Nat) (n : Int) (a5 : Option Addr) (c5 : Nat) (sw : List Int) (fs : List Nat) (hp : Box w p 72 #[.pointer (some ⟨B, 0, none⟩)]) (hq : Box w q 3 #[.int .i64 (m : Int)]) (hy : Box w y 3 #[.int .i64 n]) (hu : Box w u 30 #[.slice a5 sw.length c5]) (h5 : tIntS.Mine w [.slice a5 sw.length c5] sw fs) (hl5 : sw.length <= 2097152) : OpRuns B (p :: q :: y :: u :: fs) 219 #[.pointer (some ⟨p, 0, none⟩), .pointer (some ⟨q, 0, none⟩), .pointer (some ⟨y, 0, none⟩), .pointer (some ⟨u, 0, none⟩)] (wrK n sw m) w := by
 intro x ms ds fm fd hA hM hdis hlt
 dsimp only [wrK] at hlt
 obtain ⟨bm, bd, cm, cd, X, hmm, hdd, hr, r1, r2⟩ := hA
 have hm63 := (row_length hmm.rd).2
 obtain ⟨g, rfl⟩ := row_head hmm (by omega)
 have hdj : ms[m]? = some (ms[m]'(by omega)) := List.getElem?_eq_getElem (by omega)
 generalize ms[m]'(by omega) = d at hdj
 have hgm : ms.getD m memZ = d := getD_at hdj
 obtain ⟨hgl, a0, a1, a3, c0, c1, c3, ss, cs, f, bs, rfl, q0, q1, q2, q3, p0, p1, p3⟩ := disk_at hmm hdj
 have X0 := X
 unfold arrC at X0
 obtain ⟨k0, k1, k2, k3, k4, k5, k6, k7, k8, k9, k10, k11, k12⟩ := X0.cells13
 have zp := hp.lt
 have cp := hp.cell 0
 have zq := hq.lt
 have cq := hq.cell 0
 have zy := hy.lt
 have cy := hy.cell 0
 have zu := hu.lt
 have cu := hu.cell 0
 have hwt := memB_light (hM m _ hdj) f
 dsimp only at hwt
 have zB := X.lt
 have p5 := h5.rd
 have XH := hidden X
 have MH := hidden hmm
 have DH := hidden hdd
 have R0 := hidden p0
 have R1 := hidden p1
 have R3 := hidden p3
 have R5 := hidden p5
 have HG := hidden hgm
 have hS : w.drew.cell? ⟨p, 0, none⟩ = some (.pointer (some ⟨B, 0, none⟩)) /\ w.drew.cell? ⟨q, 0, none⟩ = some (.int .i64 (m : Int)) /\ w.drew.cell? ⟨y, 0, none⟩ = some (.int .i64 n) /\ w.drew.cell? ⟨u, 0, none⟩ = some (.slice a5 sw.length c5) /\ w.drew.cell? ⟨B, 3, none⟩ = some (.slice (some ⟨g, 0, none⟩) ms.length cm) /\ w.drew.cell? ⟨g, m * 4, none⟩ = some (.slice a0 ss.length c0) /\ w.drew.cell? ⟨g, m * 4 + 1, none⟩ = some (.slice a1 cs.length c1) /\ w.drew.cell? ⟨g, m * 4 + 2, none⟩ = some (.bool f) /\ w.drew.cell? ⟨g, m * 4 + 3, none⟩ = some (.slice a3 bs.length c3) := ⟨cp, cq, cy, cu, k3, q0, q1, q2, q3⟩
 have i1 : (0 : Int) <= (m : Int) := by omega
 have i3 : (m : Int) < (ms.length : Int) := by omega
 clear X X0 hmm hdd p0 p1 p3 p5 h5 hM hdj hgm hdis
 go_enter Tryz.func219, Tryz.ntmps219
 go_wp2_with fail
 refine Late.start (S := fun w' => w'.cell? ⟨p, 0, none⟩ = some (.pointer (some ⟨B, 0, none⟩)) /\ w'.cell? ⟨q, 0, none⟩ = some (.int .i64 (m : Int)) /\ w'.cell? ⟨y, 0, none⟩ = some (.int .i64 n) /\ w'.cell? ⟨u, 0, none⟩ = some (.slice a5 sw.length c5) /\ w'.cell? ⟨B, 3, none⟩ = some (.slice (some ⟨g, 0, none⟩) ms.length cm) /\ w'.cell? ⟨g, m * 4, none⟩ = some (.slice a0 ss.length c0) /\ w'.cell? ⟨g, m * 4 + 1, none⟩ = some (.slice a1 cs.length c1) /\ w'.cell? ⟨g, m * 4 + 2, none⟩ = some (.bool f) /\ w'.cell? ⟨g, m * 4 + 3, none⟩ = some (.slice a3 bs.length c3)) (k := 19) (by kernel_rfl) ?_
 refine Late.take (i := 0) (v := ?_) rfl (by kernel_rfl) (by kernel_rfl) (by kernel_rfl) (by kernel_rfl) (fun _ _ _ h => h) (Or.inl ⟨by rfl, ?_⟩) hS ?_
 rotate_left 1
 . (intro w hSw; (try dsimp only at hSw); go_split_ands; go_simp; first | done | with_reducible rfl)
 simp only [Act.put, List.setIfInBounds_toArray, List.set_cons_zero, List.set_cons_succ]
 refine Late.take (i := 1) (v := ?_) rfl (by kernel_rfl) (by kernel_rfl) (by kernel_rfl) (by kernel_rfl) (fun _ _ _ h => h) (Or.inl ⟨by rfl, ?_⟩) hS ?_
 rotate_left 1
 . (intro w hSw; (try dsimp only at hSw); go_split_ands; go_simp; first | done | with_reducible rfl)
 simp only [Act.put, List.setIfInBounds_toArray, List.set_cons_zero, List.set_cons_succ]
 refine Late.take (i := 2) (v := ?_) rfl (by kernel_rfl) (by kernel_rfl) (by kernel_rfl) (by kernel_rfl) (fun _ _ _ h => h) (Or.inl ⟨by rfl, ?_⟩) hS ?_
 rotate_left 1
 . (intro w hSw; (try dsimp only at hSw); go_split_ands; go_simp; first | done | with_reducible rfl)
 simp only [Act.put, List.setIfInBounds_toArray, List.set_cons_zero, List.set_cons_succ]
 refine Late.take (i := 3) (v := ?_) rfl (by kernel_rfl) (by kernel_rfl) (by kernel_rfl) (by kernel_rfl) (fun _ _ _ h => h) (Or.inl ⟨by rfl, ?_⟩) hS ?_
 rotate_left 1
 . (intro w hSw; (try dsimp only at hSw); go_split_ands; go_simp; first | done | with_reducible rfl)
 simp only [Act.put, List.setIfInBounds_toArray, List.set_cons_zero, List.set_cons_succ]
 refine Late.take (i := 4) (v := ?_) rfl (by kernel_rfl) (by kernel_rfl) (by kernel_rfl) (by kernel_rfl) (fun _ _ _ h => h) (Or.inl ⟨by rfl, ?_⟩) hS ?_
 rotate_left 1
 . (intro w hSw; (try dsimp only at hSw); go_split_ands; go_simp; first | done | with_reducible rfl)
 simp only [Act.put, List.setIfInBounds_toArray, List.set_cons_zero, List.set_cons_succ]
 refine Late.take (i := 5) (v := ?_) rfl (by kernel_rfl) (by kernel_rfl) (by kernel_rfl) (by kernel_rfl) (fun _ _ _ h => h) (Or.inl ⟨by rfl, ?_⟩) hS ?_
 rotate_left 1
 . (intro w hSw; (try dsimp only at hSw); go_split_ands; go_simp; first | done | with_reducible rfl)
 simp only [Act.put, List.setIfInBounds_toArray, List.set_cons_zero, List.set_cons_succ]
 refine Late.take (i := 6) (v := ?_) rfl (by kernel_rfl) (by kernel_rfl) (by kernel_rfl) (by kernel_rfl) (fun _ _ _ h => h) (Or.inl ⟨by rfl, ?_⟩) hS ?_
 rotate_left 1
 . (intro w hSw; (try dsimp only at hSw); go_split_ands; go_simp; first | done | with_reducible rfl)
 simp only [Act.put, List.setIfInBounds_toArray, List.set_cons_zero, List.set_cons_succ]
 refine Late.take (i := 7) (v := ?_) rfl (by kernel_rfl) (by kernel_rfl) (by kernel_rfl) (by kernel_rfl) (fun _ _ _ h => h) (Or.inl ⟨by rfl, ?_⟩) hS ?_
 rotate_left 1
 . (intro w hSw; (try dsimp only at hSw); go_split_ands; go_simp; first | done | with_reducible rfl)
 simp only [Act.put, List.setIfInBounds_toArray, List.set_cons_zero, List.set_cons_succ]
 refine Late.take (i := 8) (v := ?_) rfl (by kernel_rfl) (by kernel_rfl) (by kernel_rfl) (by kernel_rfl) (fun _ _ _ h => h) (Or.inl ⟨by rfl, ?_⟩) hS ?_
 rotate_left 1
 . (intro w hSw; (try dsimp only at hSw); go_split_ands; go_simp; first | done | with_reducible rfl)
 simp only [Act.put, List.setIfInBounds_toArray, List.set_cons_zero, List.set_cons_succ]
 refine Late.take (i := 9) (v := ?_) rfl (by kernel_rfl) (by kernel_rfl) (by kernel_rfl) (by kernel_rfl) (fun _ _ _ h => h) (Or.inl ⟨by rfl, ?_⟩) hS ?_
 rotate_left 1
 . (intro w hSw; (try dsimp only at hSw); go_split_ands; go_simp; first | done | with_reducible rfl)
 simp only [Act.put, List.setIfInBounds_toArray, List.set_cons_zero, List.set_cons_succ]
 refine Late.take (i := 10) (v := ?_) rfl (by kernel_rfl) (by kernel_rfl) (by kernel_rfl) (by kernel_rfl) (fun _ _ _ h => h) (Or.inl ⟨by rfl, ?_⟩) hS ?_
 rotate_left 1
 . (intro w hSw; (try dsimp only at hSw); go_split_ands; go_simp; first | done | with_reducible rfl)
 simp only [Act.put, List.setIfInBounds_toArray, List.set_cons_zero, List.set_cons_succ]
 refine Late.take (i := 11) (v := ?_) rfl (by kernel_rfl) (by kernel_rfl) (by kernel_rfl) (by kernel_rfl) (fun _ _ _ h => h) (Or.inl ⟨by rfl, ?_⟩) hS ?_
 rotate_left 1
 . (intro w hSw; (try dsimp only at hSw); go_split_ands; go_simp; first | done | with_reducible rfl)
 simp only [Act.put, List.setIfInBounds_toArray, List.set_cons_zero, List.set_cons_succ]
 refine Late.take (i := 12) (v := ?_) rfl (by kernel_rfl) (by kernel_rfl) (by kernel_rfl) (by kernel_rfl) (fun _ _ _ h => h) (Or.inl ⟨by rfl, ?_⟩) hS ?_
 rotate_left 1
 . (intro w hSw; (try dsimp only at hSw); go_split_ands; go_simp; first | done | with_reducible rfl)
 simp only [Act.put, List.setIfInBounds_toArray, List.set_cons_zero, List.set_cons_succ]
 refine Late.take (i := 13) (v := ?_) rfl (by kernel_rfl) (by kernel_rfl) (by kernel_rfl) (by kernel_rfl) (fun _ _ _ h => h) (Or.inl ⟨by rfl, ?_⟩) hS ?_
 rotate_left 1
 . (intro w hSw; (try dsimp only at hSw); go_split_ands; go_simp; first | done | with_reducible rfl)
 simp only [Act.put, List.setIfInBounds_toArray, List.set_cons_zero, List.set_cons_succ]
 refine Late.one (i := 14) (by kernel_rfl) rfl (fun K hK => ?_)
 go_simp
 refine (implWriteSec_any _ 159 _ _ _ _ _ _ _ _ _ _ _ _ ss cs f bs n sw R0.out.drew R1.out.drew R3.out.drew R5.out.drew (by omega) (by omega)).mono ?_
 rintro e w2 ⟨u0, u1, u3, rfl, o2, b2'⟩
 have b2 : Below w.heap.size w w2 := (Below.refl w.heap.size w).drew.trans b2'
 have o2b : (tMem 159).Own w2 w.heap.size w2.heap.size [u0, u1, .bool f, u3] _ := o2
 obtain ⟨d0, l0, f0, d1, l1, f1, d3, l3, f3, hv0, hv1, hv3⟩ := mem_slices o2b
 subst hv0 hv1 hv3
 obtain ⟨fpx, mx, rx⟩ := o2b.mine
 obtain ⟨cOld, fz, hgm, fm9, hA9, hMv9⟩ := arr_store (m := m) XH.out MH.out DH.out hr r1 r2 b2 (by omega) mx (fun b hb => (rx b hb).1)
 obtain ⟨o0, t0⟩ := cOld 0 (by omega)
 obtain ⟨o1, t1⟩ := cOld 1 (by omega)
 obtain ⟨o2', t2⟩ := cOld 2 (by omega)
 obtain ⟨o3, t3⟩ := cOld 3 (by omega)
 rw [Nat.add_zero] at t0
 have HA := hidden hA9
 have HMV := hidden hMv9
 have hS2 : w2.cell? ⟨p, 0, none⟩ = some (.pointer (some ⟨B, 0, none⟩)) /\ w2.cell? ⟨q, 0, none⟩ = some (.int .i64 (m : Int)) /\ w2.cell? ⟨y, 0, none⟩ = some (.int .i64 n) /\ w2.cell? ⟨u, 0, none⟩ = some (.slice a5 sw.length c5) /\ w2.cell? ⟨B, 3, none⟩ = some (.slice (some ⟨g, 0, none⟩) ms.length cm) /\ w2.cell? ⟨g, m * 4, none⟩ = some (.slice a0 ss.length c0) /\ w2.cell? ⟨g, m * 4 + 1, none⟩ = some (.slice a1 cs.length c1) /\ w2.cell? ⟨g, m * 4 + 2, none⟩ = some (.bool f) /\ w2.cell? ⟨g, m * 4 + 3, none⟩ = some (.slice a3 bs.length c3) := ⟨(b2.cell (p := ⟨p, 0, none⟩) zp).trans cp, (b2.cell (p := ⟨q, 0, none⟩) zq).trans cq, (b2.cell (p := ⟨y, 0, none⟩) zy).trans cy, (b2.cell (p := ⟨u, 0, none⟩) zu).trans cu, (b2.cell (p := ⟨B, 3, none⟩) zB).trans k3, (b2.cell (p := ⟨g, m * 4, none⟩) hgl).trans q0, (b2.cell (p := ⟨g, m * 4 + 1, none⟩) hgl).trans q1, (b2.cell (p := ⟨g, m * 4 + 2, none⟩) hgl).trans q2, (b2.cell (p := ⟨g, m * 4 + 3, none⟩) hgl).trans q3⟩
 have gB : ¬ g = B := fun e => r1 (e ▸ hgm)
 unfold put4 at HA HMV
 have HF : Hid (∀ W, ArrAt W B x (ms.set m (wrM (ss, cs, f, bs) n sw)) ds fm9 fd -> Moved B fm w fm9 W -> (Ending.returned (Value.tuple #[]) = .returned (.tuple #[]) /\ ∃ fm', ArrAt W B x (ms.set (wrK n sw m).1 (opF (wrK n sw m) x (ms.getD (wrK n sw m).1 memZ))) ds fm' fd /\ Moved B fm w fm' W)) := fun W h1 h2 => ⟨rfl, fm9, by show ArrAt W B x (ms.set m (opF (wrK n sw m) x (ms.getD m memZ))) ds fm9 fd; rw [HG.out]; exact h1, h2⟩
 clear cp cq cy cu k3 q0 q1 q2 q3 o2 o2b b2 b2' mx rx cOld hA9 hMv9 XH MH DH R0 R1 R3 R5 hwt HG
 go_wp2_with fail
 refine hK.out _ _ (fun _ => hS2) ?_
 clear hK K
 refine Late.take (i := 15) (v := ?_) rfl (by kernel_rfl) (by kernel_rfl) (by kernel_rfl) (by kernel_rfl) (fun _ _ _ h => h) (Or.inl ⟨by rfl, ?_⟩) hS2 ?_
 rotate_left 1
 . (intro w hSw; (try dsimp only at hSw); go_split_ands; go_simp; first | done | with_reducible rfl)
 simp only [Act.put, List.setIfInBounds_toArray, List.set_cons_zero, List.set_cons_succ]
 refine Late.take (i := 16) (v := ?_) rfl (by kernel_rfl) (by kernel_rfl) (by kernel_rfl) (by kernel_rfl) (fun _ _ _ h => h) (Or.inl ⟨by rfl, ?_⟩) hS2 ?_
 rotate_left 1
 . (intro w hSw; (try dsimp only at hSw); go_split_ands; go_simp; first | done | with_reducible rfl)
 simp only [Act.put, List.setIfInBounds_toArray, List.set_cons_zero, List.set_cons_succ]
 refine Late.take (i := 18) (v := ?_) rfl (by kernel_rfl) (by kernel_rfl) (by kernel_rfl) (by kernel_rfl) (fun _ _ _ h => h) (Or.inl ⟨by rfl, ?_⟩) hS2 ?_
 rotate_left 1
 . (intro w hSw; (try dsimp only at hSw); go_split_ands; go_simp; first | done | with_reducible rfl)
 simp only [Act.put, List.setIfInBounds_toArray, List.set_cons_zero, List.set_cons_succ]
 refine Late.two (i := 17) (i' := 19) (by kernel_rfl) rfl rfl (fun K hK => ?_) (fun K hK => ?_)
 . go_simp
   refine hK.out _ _ (fun _ => hS2) ?_
   clear hK K
   refine Late.one (i := 19) (by kernel_rfl) rfl (fun K hK => ?_)
   go_simp
   refine hK.out _ _ (fun h => absurd rfl h) ?_
   clear hK K
   refine Late.done (by kernel_rfl) ?_ _
   clear hS hS2 t0 t1 t2 t3 fz
   go_wp2
   refine bodyPost_end (v := .tuple #[]) (results_none rfl _ _ _) rfl ?_
   exact ⟨rfl, (HF.out _ HA.out HMV.out).2⟩
 . go_simp
   refine hK.out _ _ (fun h => absurd rfl h) ?_
   clear hK K
   refine Late.late (i := 17) (by kernel_rfl) rfl (by kernel_rfl) (fun K hK => ?_)
   go_simp
   refine hK.out _ _ ?_
   clear hK K
   refine Late.done (by kernel_rfl) ?_ _
   clear hS hS2 t0 t1 t2 t3 fz
   go_wp2
   refine bodyPost_end (v := .tuple #[]) (results_none rfl _ _ _) rfl ?_
   exact ⟨rfl, (HF.out _ HA.out HMV.out).2⟩

theorem writeOp_any (w : World) (B m : Nat) (n : Int) (a5 : Option Addr) (c5 : Nat) (sw : List Int) (fs : List Nat) (h5 : tIntS.Mine w [.slice a5 sw.length c5] sw fs) (hl5 : sw.length <= 2097152) : Calls Tryz.prog 172 #[.pointer (some ⟨B, 0, none⟩), .int .i64 (m : Int), .int .i64 n, .slice a5 sw.length c5] w fun e w' => ∃ v fp, e = .returned v /\ (opTy B).Mine w' [v] (wrK n sw m) fp /\ (∀ b ∈ fp, b ∈ fs ∨ (w.heap.size <= b /\ b < w'.heap.size)) /\ Below w.heap.size w w' := by
 have hmf : ∀ (fn : Fn) (first cap : Array Value) (w : World), (Instr.makeFunc fn first cap).run Tryz.prog w = .ok (.func fn first cap) w := fun _ _ _ _ => rfl
 have hb : Below w.heap.size w ((((w.alloc (.cells #[.pointer (some ⟨B, 0, none⟩)] 72)).alloc (.cells #[.int .i64 (m : Int)] 3)).alloc (.cells #[.int .i64 n] 3)).alloc (.cells #[.slice a5 sw.length c5] 30)) := ((((Below.refl _ _).alloc (Nat.le_refl _) _).alloc (by simp) _).alloc (by simp; omega) _).alloc (by simp; omega) _
 have zz : ∀ v : World, ∀ ob : Obj, (v.alloc ob).heap.size = v.heap.size + 1 := fun v ob => by simp
 have b0 := Box.new w 72 #[.pointer (some ⟨B, 0, none⟩)]
 replace b0 := b0.alloc (.cells #[.int .i64 (m : Int)] 3)
 replace b0 := b0.alloc (.cells #[.int .i64 n] 3)
 replace b0 := b0.alloc (.cells #[.slice a5 sw.length c5] 30)
 have b1 := Box.new (w.alloc (.cells #[.pointer (some ⟨B, 0, none⟩)] 72)) 3 #[.int .i64 (m : Int)]
 rw [zz] at b1
 replace b1 := b1.alloc (.cells #[.int .i64 n] 3)
 replace b1 := b1.alloc (.cells #[.slice a5 sw.length c5] 30)
 have b2 := Box.new ((w.alloc (.cells #[.pointer (some ⟨B, 0, none⟩)] 72)).alloc (.cells #[.int .i64 (m : Int)] 3)) 3 #[.int .i64 n]
 rw [zz, zz] at b2
 replace b2 := b2.alloc (.cells #[.slice a5 sw.length c5] 30)
 have b3 := Box.new (((w.alloc (.cells #[.pointer (some ⟨B, 0, none⟩)] 72)).alloc (.cells #[.int .i64 (m : Int)] 3)).alloc (.cells #[.int .i64 n] 3)) 30 #[.slice a5 sw.length c5]
 rw [zz, zz, zz] at b3
 have hsz : ((((w.alloc (.cells #[.pointer (some ⟨B, 0, none⟩)] 72)).alloc (.cells #[.int .i64 (m : Int)] 3)).alloc (.cells #[.int .i64 n] 3)).alloc (.cells #[.slice a5 sw.length c5] 30)).heap.size = w.heap.size + 1 + 1 + 1 + 1 := by simp
 have hlt := h5.lt
 have h5w : tIntS.Mine ((((w.alloc (.cells #[.pointer (some ⟨B, 0, none⟩)] 72)).alloc (.cells #[.int .i64 (m : Int)] 3)).alloc (.cells #[.int .i64 n] 3)).alloc (.cells #[.slice a5 sw.length c5] 30)) [.slice a5 sw.length c5] sw fs := h5.below hb
 have HO : Hid ((opTy B).Mine ((((w.alloc (.cells #[.pointer (some ⟨B, 0, none⟩)] 72)).alloc (.cells #[.int .i64 (m : Int)] 3)).alloc (.cells #[.int .i64 n] 3)).alloc (.cells #[.slice a5 sw.length c5] 30)) [.func (Fn.func 219) #[] #[.pointer (some ⟨w.heap.size, 0, none⟩), .pointer (some ⟨w.heap.size + 1, 0, none⟩), .pointer (some ⟨w.heap.size + 1 + 1, 0, none⟩), .pointer (some ⟨w.heap.size + 1 + 1 + 1, 0, none⟩)]] (wrK n sw m) ((w.heap.size) :: (w.heap.size + 1) :: (w.heap.size + 1 + 1) :: (w.heap.size + 1 + 1 + 1) :: fs)) := by
  refine ⟨⟨219, _, rfl, enters_of Tryz.func219 (by kernel_rfl) (by kernel_rfl) _, ?_, fun w' hk hs => ?_⟩, ?_⟩
  . intro b hb'
    simp only [List.mem_cons] at hb'
    rcases hb' with h | h | h | h | h
    . omega
    . omega
    . omega
    . omega
    . have := hlt b h; omega
  . exact writeOp1_runs w' B _ _ _ _ m n a5 c5 sw fs (b0.kept (hk _ (by simp))) (b1.kept (hk _ (by simp))) (b2.kept (hk _ (by simp))) (b3.kept (hk _ (by simp))) ⟨tIntS.owKept h5w.1 (fun b hb' => hk b (by simp [hb'])) hs, h5.2⟩ hl5
  . have n0 : ∀ k, w.heap.size <= k -> k ∉ fs := fun k hk hm => by have := hlt k hm; omega
    simp only [List.nodup_cons, List.mem_cons]
    refine ⟨fun h => ?_, fun h => ?_, fun h => ?_, n0 _ (by omega), h5.2⟩
    . rcases h with h | h | h | h
      . omega
      . omega
      . omega
      . exact n0 _ (by omega) h
    . rcases h with h | h | h
      . omega
      . omega
      . exact n0 _ (by omega) h
    . rcases h with h | h
      . omega
      . exact n0 _ (by omega) h
 have HB := hidden hb
 have HFP : Hid (∀ b ∈ ((w.heap.size) :: (w.heap.size + 1) :: (w.heap.size + 1 + 1) :: (w.heap.size + 1 + 1 + 1) :: fs), b ∈ fs ∨ (w.heap.size <= b /\ b < ((((w.alloc (.cells #[.pointer (some ⟨B, 0, none⟩)] 72)).alloc (.cells #[.int .i64 (m : Int)] 3)).alloc (.cells #[.int .i64 n] 3)).alloc (.cells #[.slice a5 sw.length c5] 30)).heap.size)) := by
  intro b hb'
  simp only [List.mem_cons] at hb'
  rcases hb' with h | h | h | h | h
  . exact .inr (by omega)
  . exact .inr (by omega)
  . exact .inr (by omega)
  . exact .inr (by omega)
  . exact .inl h
 clear hb b0 b1 b2 b3 hsz h5w zz
 go_enter Tryz.func172, Tryz.ntmps172
 go_wp2
 go_ret
 exact ⟨_, _, rfl, HO.out, HFP.out, HB.out⟩

end Go.Proofs.YtianjijbmiebgaaGreat

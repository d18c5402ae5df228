/-
  Is water left behind days, of which one has some water.
-/
import Derived.Test.YtoobgjigfmnnaaaFlood1
set_option linter.unusedVariables false
set_option linter.unusedSimpArgs false
namespace Go.Proofs.Ytoobgjigfmnnaaa
open Go.RowKit

theorem DaysAt.water {w : World} {b o n cap : Nat} {d : Nat → Dy} (h : DaysAt w (.slice (some ⟨b, o, none⟩) n cap) n d) {j : Nat} (hj : j < n) (water : Int) :
    DaysAt (w.setCell ⟨b, o + j * 6 + 4, none⟩ (.int .i64 water)) (.slice (some ⟨b, o, none⟩) n cap) n (wet d j water) := by
  obtain ⟨a, cap', hv, h1, h2, h3⟩ := h
  simp only [Value.slice.injEq] at hv
  obtain ⟨rfl, _, rfl⟩ := hv
  obtain ⟨b', o', ha, hc⟩ := h3 (by omega)
  simp only [Option.some.injEq, Addr.mk.injEq] at ha
  obtain ⟨rfl, rfl, _⟩ := ha
  refine ⟨_, _, rfl, h1, h2, fun _ => ⟨b, o, rfl, fun i hi => ?_⟩⟩
  obtain ⟨a0, a1, a2, a3, a4, a5⟩ := hc i hi
  have ne : ∀ t, t ≠ o + j * 6 + 4 → (w.setCell ⟨b, o + j * 6 + 4, none⟩ (.int .i64 water)).cell? ⟨b, t, none⟩ = w.cell? ⟨b, t, none⟩ := fun t ht => World.cell?_setCell_other _ _ _ _ (by intro h; simp at h; first | done | omega)
  by_cases e : i = j
  · subst e
    rw [wet_at]
    exact ⟨(ne _ (by omega)).trans a0, (ne _ (by omega)).trans a1, (ne _ (by omega)).trans a2, (ne _ (by omega)).trans a3, World.cell?_setCell_same _ _ _ a4, (ne _ (by omega)).trans a5⟩
  · rw [wet_ne d e]
    exact ⟨(ne _ (by omega)).trans a0, (ne _ (by omega)).trans a1, (ne _ (by omega)).trans a2, (ne _ (by omega)).trans a3, (ne _ (by omega)).trans a4, (ne _ (by omega)).trans a5⟩
theorem daysAt_wa {w : World} {b o n cap : Nat} {d : Nat → Dy} (h : DaysAt w (.slice (some ⟨b, o, none⟩) n cap) n d) {j : Nat} (hj : j < n) : w.cell? ⟨b, o + j * 6 + 4, none⟩ = some (.int .i64 (d j).wa) := by
  obtain ⟨a, cap', hv, h1, h2, h3⟩ := h
  simp only [Value.slice.injEq] at hv
  obtain ⟨rfl, _, rfl⟩ := hv
  obtain ⟨b', o', ha, hc⟩ := h3 (by omega)
  simp only [Option.some.injEq, Addr.mk.injEq] at ha
  obtain ⟨rfl, rfl, _⟩ := ha
  exact (hc j hj).2.2.2.2.1
theorem days_one6 (d : Nat → Dy) : ∀ n, ∀ u ∈ daysC d n, u.oneCell' = true
  | 0, u, h => by simp [daysC] at h
  | n + 1, u, h => by
    simp only [daysC, List.mem_append] at h
    rcases h with h | h
    · exact days_one6 d n u h
    · exact one6 (d n) u h
theorem days_news {w : World} {b o n : Nat} {d : Nat → Dy} (hc : ∀ i, i < n → w.cell? ⟨b, o + i * 6, none⟩ = some (.int .i64 (d i).c0) ∧ w.cell? ⟨b, o + i * 6 + 1, none⟩ = some (.int .i64 (d i).c1) ∧ w.cell? ⟨b, o + i * 6 + 2, none⟩ = some (.int .i64 (d i).f0) ∧
      w.cell? ⟨b, o + i * 6 + 3, none⟩ = some (.int .i64 (d i).f1) ∧ w.cell? ⟨b, o + i * 6 + 4, none⟩ = some (.int .i64 (d i).wa) ∧ w.cell? ⟨b, o + i * 6 + 5, none⟩ = some (.bool (d i).cl)) :
    ∀ (q : Nat) (u : Value), (daysC d n)[q]? = some u → w.cell? ((⟨b, o, none⟩ : Addr).add q) = some u := by
  intro q u h
  have hl := daysC_len d n
  have hq : q < n * 6 := by
    rw [← hl]
    exact (List.getElem?_eq_some_iff.1 h).1
  have hi : q / 6 < n := by omega
  have e : q = q / 6 * 6 + q % 6 := by omega
  have hr : q % 6 < 6 := by omega
  have k := daysC_at d n (q / 6) (q % 6) hi hr
  rw [← e, h] at k
  obtain ⟨a0, a1, a2, a3, a4, a5⟩ := hc (q / 6) hi
  rw [addr_add, show o + q = o + q / 6 * 6 + q % 6 by omega]
  generalize q / 6 = i at *
  generalize q % 6 = r at *
  clear e hq
  obtain rfl | rfl | rfl | rfl | rfl | rfl : r = 0 ∨ r = 1 ∨ r = 2 ∨ r = 3 ∨ r = 4 ∨ r = 5 := by omega
  all_goals (simp [dayC] at k; subst k; first | exact a0 | exact a1 | exact a2 | exact a3 | exact a4 | exact a5)

theorem row_free {W : World} {base s : Nat} {e : TypeId} {v : Value} {m : Nat} {xs : List Value} (h : W.ownsRow base e s v m xs) (h0 : 0 < m) :
    ∃ g cap, v = .slice (some ⟨g, 0, none⟩) m cap ∧ base ≤ g ∧ g < W.heap.size ∧ ∀ k, W.frozen? ⟨g, k, none⟩ = false := by
  obtain ⟨_, h2⟩ := h
  rcases h2 with ⟨_, h2⟩ | ⟨g, cap, cur, hv, hg, hc, _⟩
  · omega
  · refine ⟨g, cap, hv, hg, (Array.getElem?_eq_some_iff.1 hc).1, fun k => ?_⟩
    have h' : W.heap[g]? = some (.cells cur e (0, 0)) := hc
    simp [World.frozen?, h']

set_option maxRecDepth 100000 in
set_option maxHeartbeats 8000000 in
theorem left_kit (l : Lw) (v : Value) (x : Ic) (vd : Value) (n : Nat) (d : Nat → Dy) (j : Nat) (water : Int) (w : World) (hl : l.Kit) (hv : CovAt w v l.n l.D l.P0 l.P1) (hx : x.Val) (hd : DaysAt w vd n d) (hn : n ≤ 400) (hk : ∀ i, i < n → (d i).Ok) (hj : j < n) (g0 : 0 ≤ water) (g1 : water ≤ 200) :
    Calls Try.prog 59 #[.agg #[.int .i64 l.gr, .int .i64 l.la, v, .int .i64 l.m0, .int .i64 l.m1, .int .i64 l.so, .int .i64 l.h0, .int .i64 l.h1], .agg #[.int .i64 x.b0, .int .i64 x.b1, .int .i64 x.w0, .int .i64 x.w1, .int .i64 x.q0, .int .i64 x.q1, .int .i64 x.s0, .int .i64 x.s1], vd, .int .i64 ((j : Int) + 1), .int .i64 water] w
      fun e w' => e = .returned (.bool (!((iceAt l (wet d j water) x n).q1 == 0))) ∧ Below w.heap.size w w' := by
  have hwk := wet_ok (k := j) hk g0 g1
  have hq : 0 ≤ (iceAt l (wet d j water) x n).q1 := (iceAt_bd (j := 0) hl.ok hx.bd n hwk n (Nat.le_refl _) (by omega)).q1.1
  obtain ⟨Q, hQe⟩ : ∃ q, (iceAt l (wet d j water) x n).q1 = q := ⟨_, rfl⟩
  rw [hQe] at hq ⊢
  have HQe := Lib.hid hQe
  clear hQe
  obtain ⟨va, vcap, hvv, _, _, _⟩ := id hv
  subst hvv
  obtain ⟨da, dcap, hvd, ncap, _, hc⟩ := id hd
  subst hvd
  obtain ⟨b, o, rfl, hc2⟩ := hc (by omega)
  have zb := World.block_lt_of_cell? _ _ (hc2 0 (by omega)).1
  have hnw := days_news hc2
  have HRn := Lib.hid (fun (W : World) (vo : Value) g1 g2 g3 => run_kit l (.slice va l.n vcap) x vo n (wet d j water) W hl g1 hx g2 hn hwk g3)
  have e1 : IntKind.i64.wrap ((j : Int) + 1 - 1) = (j : Int) := by rw [IntWalk.i64_in _ (by omega)]; omega
  have HV := Lib.hid hv
  have HNw := Lib.hid hnw
  clear hv hd hc hc2 hwk hnw hx hk
  have jL := (Blk.new w #[.int .i64 l.gr, .int .i64 l.la, .slice va l.n vcap, .int .i64 l.m0, .int .i64 l.m1, .int .i64 l.so, .int .i64 l.h0, .int .i64 l.h1] 26).alloc (.cells #[.int .i64 x.b0, .int .i64 x.b1, .int .i64 x.w0, .int .i64 x.w1, .int .i64 x.q0, .int .i64 x.q1, .int .i64 x.s0, .int .i64 x.s1] 28)
  have jX := Blk.new1 w (.cells #[.int .i64 l.gr, .int .i64 l.la, .slice va l.n vcap, .int .i64 l.m0, .int .i64 l.m1, .int .i64 l.so, .int .i64 l.h0, .int .i64 l.h1] 26) #[.int .i64 x.b0, .int .i64 x.b1, .int .i64 x.w0, .int .i64 x.w1, .int .i64 x.q0, .int .i64 x.q1, .int .i64 x.s0, .int .i64 x.s1] 28
  have jB : Below w.heap.size w ((w.alloc (.cells #[.int .i64 l.gr, .int .i64 l.la, .slice va l.n vcap, .int .i64 l.m0, .int .i64 l.m1, .int .i64 l.so, .int .i64 l.h0, .int .i64 l.h1] 26)).alloc (.cells #[.int .i64 x.b0, .int .i64 x.b1, .int .i64 x.w0, .int .i64 x.w1, .int .i64 x.q0, .int .i64 x.q1, .int .i64 x.s0, .int .i64 x.s1] 28)) := by (repeat (first | exact Below.refl _ _ | assumption | refine Below.drew ?_ | refine Below.drewN ?_ _ | refine Below.setCell ?_ (by first | (simp; done) | (simp; omega) | omega) _ | refine below_alloc ?_ (by first | exact Nat.le_refl _ | (simp; done) | (simp; omega) | omega) _))
  go_enter Try.func59, Try.ntmps59
  go_upto_region 1 with fail
  obtain ⟨bL, hbL⟩ : ∃ q, w.heap.size = q := ⟨_, rfl⟩
  have zL : w.heap.size ≤ bL := by omega
  have zL2 : bL ≤ w.heap.size := by omega
  rw [hbL] at jL jX
  (try rw [hbL])
  clear hbL
  have zs : ((w.alloc (.cells #[.int .i64 l.gr, .int .i64 l.la, .slice va l.n vcap, .int .i64 l.m0, .int .i64 l.m1, .int .i64 l.so, .int .i64 l.h0, .int .i64 l.h1] 26)).alloc (.cells #[.int .i64 x.b0, .int .i64 x.b1, .int .i64 x.w0, .int .i64 x.w1, .int .i64 x.q0, .int .i64 x.q1, .int .i64 x.s0, .int .i64 x.s1] 28)).heap.size = w.heap.size + 1 + 1 := by simp
  have zz : w.heap.size + 1 + 1 ≤ ((w.alloc (.cells #[.int .i64 l.gr, .int .i64 l.la, .slice va l.n vcap, .int .i64 l.m0, .int .i64 l.m1, .int .i64 l.so, .int .i64 l.h0, .int .i64 l.h1] 26)).alloc (.cells #[.int .i64 x.b0, .int .i64 x.b1, .int .i64 x.w0, .int .i64 x.w1, .int .i64 x.q0, .int .i64 x.q1, .int .i64 x.s0, .int .i64 x.s1] 28)).heap.size := by omega
  clear zs
  generalize (w.alloc (.cells #[.int .i64 l.gr, .int .i64 l.la, .slice va l.n vcap, .int .i64 l.m0, .int .i64 l.m1, .int .i64 l.so, .int .i64 l.h0, .int .i64 l.h1] 26)).alloc (.cells #[.int .i64 x.b0, .int .i64 x.b1, .int .i64 x.w0, .int .i64 x.w1, .int .i64 x.q0, .int .i64 x.q1, .int .i64 x.s0, .int .i64 x.s1] 28) = V at jL jX jB zz ⊢
  have jO : ((V.alloc (.cells #[] 30))).ownsRow (V.heap.size) 30 6 (.slice (some ⟨V.heap.size, 0, none⟩) 0 0) 0 [] :=
    ⟨rfl, .inr ⟨V.heap.size, 0, #[], rfl, Nat.le_refl _, World.alloc_heap_new V _, Nat.le_refl _, Nat.zero_le _, rfl, rfl⟩⟩
  obtain ⟨i0, hi0, hz0, hz1, hz2⟩ := info_parts Try.infoDay
  have hB3 : Below w.heap.size w (V.alloc (.cells #[] 30)) := below_alloc jB (by omega) _
  have hnw : ∀ (q : Nat) (u : Value), (daysC d n)[q]? = some u → (V.alloc (.cells #[] 30)).cell? ((⟨b, o, none⟩ : Addr).add q) = some u := fun q u h => cell_later hB3 (HNw.out q u h)
  go_upto_region 2 with (at_builtin; refine wpList_append_own_at _ rfl _ _ 38 rfl V.heap.size 30 i0 (.agg #[.int .i64 0, .int .i64 0, .int .i64 0, .int .i64 0, .int .i64 0, .bool false]) 6 48 Try.underlying38 hi0 hz0 hz1 hz2 rfl (by decide) _ _ _ rfl jO ⟨b, o, none⟩ n dcap (daysC d n) rfl (daysC_len d n) hnw (days_one6 d n) (by unfold maxLen; omega) (by omega) (by simp) ?_; intro v' w10 hown' hgrow _ _; simp only [Nat.zero_add, List.nil_append] at hown'; obtain ⟨g, cap', rfl, hg, hgl, hfz⟩ := row_free hown' (by omega); have kD := daysAt_of_row hown'; have a4 := daysAt_wa kD hj; have f4 := hfz (0 + j * 6 + 4); have jL2 := (jL.alloc (.cells #[] 30)).grown hgrow (fun q e => by have := (jO.lt q e).1; omega); have jX2 := (jX.alloc (.cells #[] 30)).grown hgrow (fun q e => by have := (jO.lt q e).1; omega); have jB2 : Below w.heap.size w w10 := hB3.grown hgrow (by simp; omega) (fun q e => by have := (jO.lt q e).1; omega))
  have zLg : bL < g := by have := jL2.lt; omega
  have zLh : bL + 1 < g := by omega
  rw [Nat.zero_add] at a4 f4
  go_upto_region 3 with fail
  have kDw := DaysAt.water kD hj water
  rw [Nat.zero_add] at kDw
  replace jL2 := jL2.other ⟨g, j * 6 + 4, none⟩ (.int .i64 water) (by simp; omega)
  replace jX2 := jX2.other ⟨g, j * 6 + 4, none⟩ (.int .i64 water) (by simp; omega)
  replace jB2 := jB2.setCell (p := ⟨g, j * 6 + 4, none⟩) (by simp; omega) (.int .i64 water)
  generalize w10.setCell ⟨g, j * 6 + 4, none⟩ (.int .i64 water) = w11 at kDw jL2 jX2 jB2 ⊢
  clear a4 f4 hfz kD hown' hgrow hB3 hnw jO jL jX jB HNw zb
  obtain ⟨l0, l1, l2, l3, l4, l5, l6, l7⟩ := jL2.c8
  obtain ⟨x0, x1, x2, x3, x4, x5, x6, x7⟩ := jX2.c8
  have zL3 := jL2.lt
  have zX3 := jX2.lt
  go_wp2_with fail
  refine (HRn.out _ _ (HV.out.later jB2) kDw (Nat.lt_of_le_of_lt (Nat.zero_le _) zL3)).mono ?_
  rintro e w12 ⟨ra, rfl, hra, hb⟩
  clear l0 l1 l2 l3 l4 l5 l6 l7 x0 x1 x2 x3 x4 x5 x6 x7 zL3 zX3
  replace jB2 := below_step jB2 (Nat.le_refl _) hb
  have kRa := iceL_of_row hra
  clear hra hb HRn HV kDw jL2 jX2
  obtain ⟨aa, acap, hra', acn, _, hz3⟩ := kRa
  subst hra'
  obtain ⟨b2, o2, rfl, hc2⟩ := hz3 (by omega)
  obtain ⟨nn, hnn⟩ : ∃ q, n = q + 1 := ⟨n - 1, by omega⟩
  have hcl := (hc2 nn (by omega)).2.2.2.2.2.1
  dsimp only at hcl
  rw [← hnn] at hcl
  have e3 : IntKind.i64.wrap ((n : Int) - 1) = (nn : Int) := by rw [IntWalk.i64_in _ (by omega)]; omega
  have hnl : nn < n := by omega
  clear hc2 hz3 hnn
  rw [HQe.out] at hcl
  by_cases hQ : Q = 0
  · have HR := Lib.hid (show (!(Q == 0)) = false by simp [hQ])
    have hd : decide (0 < Q) = false := by simp; omega
    clear hQ hq
    go_wp2
    go_ret
    exact ⟨by rw [HR.out]; rfl, jB2⟩
  · have HR := Lib.hid (show (!(Q == 0)) = true by simp [hQ])
    have hd : decide (0 < Q) = true := by simp; omega
    clear hQ hq
    go_wp2
    go_ret
    exact ⟨by rw [HR.out]; rfl, jB2⟩
end Go.Proofs.Ytoobgjigfmnnaaa

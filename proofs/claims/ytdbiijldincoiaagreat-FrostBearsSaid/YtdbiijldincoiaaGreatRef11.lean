/-
  Step of the program and of the reference, at any input: the same value.
  Lists of ice and of days, and parts of them; the kit's SameIce where two lists are equal; Wrap.
  Step of the program and of the reference, at any law, ice and day: one value.
-/
import Derived.Test.YtdbiijldincoiaaGreatRef9
import Derived.Test.YtdbiijldincoiaaGreatAwake
import Derived.Test.YtdbiijldincoiaaGreatBd
import Derived.Test.YtdbiijldincoiaaGreatTail
import Derived.Test.YtdbiijldincoiaaGreatRef1
set_option linter.unusedVariables false
set_option linter.unusedSimpArgs false
namespace Go.Proofs.YtdbiijldincoiaaGreat
open Go.RowKit

set_option maxRecDepth 100000 in
set_option maxHeartbeats 4000000 in
theorem fstep_gen (gr la : Int) (va : Option Addr) (nc vcap : Nat) (m0 m1 so h0 h1 : Int) (d : Dy) (x y : Ic) (E : Int) (w : World)
    (hA : ∀ W bd, Below w.heap.size w W → Blk W bd #[.int .i64 d.c0, .int .i64 d.c1, .int .i64 d.f0, .int .i64 d.f1, .int .i64 d.wa, .bool d.cl] 58 → Calls Tryz.prog 36 #[.agg #[.int .i64 gr, .int .i64 la, (.slice va nc vcap), .int .i64 m0, .int .i64 m1, .int .i64 so, .int .i64 h0, .int .i64 h1], .agg #[.int .i64 x.b0, .int .i64 x.b1, .int .i64 x.w0, .int .i64 x.w1, .int .i64 x.q0, .int .i64 x.q1, .int .i64 x.s0, .int .i64 x.s1], .slice (some ⟨bd, 0, none⟩) 1 1] W fun e w' => e = .returned (.int .i64 E) ∧ Below W.heap.size W w')
    (hS : E = 0 → ∀ W, Below w.heap.size w W → Calls Tryz.prog 55 #[.agg #[.int .i64 gr, .int .i64 la, (.slice va nc vcap), .int .i64 m0, .int .i64 m1, .int .i64 so, .int .i64 h0, .int .i64 h1], .agg #[.int .i64 x.b0, .int .i64 x.b1, .int .i64 x.w0, .int .i64 x.w1, .int .i64 x.q0, .int .i64 x.q1, .int .i64 x.s0, .int .i64 x.s1], .agg #[.int .i64 d.c0, .int .i64 d.c1, .int .i64 d.f0, .int .i64 d.f1, .int .i64 d.wa, .bool d.cl]] W fun e w' => e = .returned (.agg #[.int .i64 y.b0, .int .i64 y.b1, .int .i64 y.w0, .int .i64 y.w1, .int .i64 y.q0, .int .i64 y.q1, .int .i64 y.s0, .int .i64 y.s1]) ∧ Below W.heap.size W w') (hZ : E ≠ 0 → y = ⟨0, 0, 0, 0, 0, 0, 0, 0⟩) :
    Calls Tryz.prog 27 #[.agg #[.int .i64 gr, .int .i64 la, (.slice va nc vcap), .int .i64 m0, .int .i64 m1, .int .i64 so, .int .i64 h0, .int .i64 h1], .agg #[.int .i64 x.b0, .int .i64 x.b1, .int .i64 x.w0, .int .i64 x.w1, .int .i64 x.q0, .int .i64 x.q1, .int .i64 x.s0, .int .i64 x.s1], .agg #[.int .i64 d.c0, .int .i64 d.c1, .int .i64 d.f0, .int .i64 d.f1, .int .i64 d.wa, .bool d.cl]] w
      fun e w' => e = .returned (.tuple #[.agg #[.int .i64 y.b0, .int .i64 y.b1, .int .i64 y.w0, .int .i64 y.w1, .int .i64 y.q0, .int .i64 y.q1, .int .i64 y.s0, .int .i64 y.s1], .int .i64 E]) ∧ Below w.heap.size w w' := by
  have HA := Lib.hid hA
  have HS := Lib.hid hS
  have HZ := Lib.hid hZ
  clear hA hS hZ
  have jL := ((((Blk.new w #[.int .i64 gr, .int .i64 la, .slice va nc vcap, .int .i64 m0, .int .i64 m1, .int .i64 so, .int .i64 h0, .int .i64 h1] 26).alloc (.cells #[.int .i64 x.b0, .int .i64 x.b1, .int .i64 x.w0, .int .i64 x.w1, .int .i64 x.q0, .int .i64 x.q1, .int .i64 x.s0, .int .i64 x.s1] 28)).alloc (.cells #[.int .i64 d.c0, .int .i64 d.c1, .int .i64 d.f0, .int .i64 d.f1, .int .i64 d.wa, .bool d.cl] 58)).alloc (.cells #[.int .i64 0, .int .i64 0, .int .i64 0, .int .i64 0, .int .i64 0, .int .i64 0, .int .i64 0, .int .i64 0] 28)).alloc (.cells #[.int .i64 d.c0, .int .i64 d.c1, .int .i64 d.f0, .int .i64 d.f1, .int .i64 d.wa, .bool d.cl] 58)
  have jI := (((Blk.new1 w (.cells #[.int .i64 gr, .int .i64 la, .slice va nc vcap, .int .i64 m0, .int .i64 m1, .int .i64 so, .int .i64 h0, .int .i64 h1] 26) #[.int .i64 x.b0, .int .i64 x.b1, .int .i64 x.w0, .int .i64 x.w1, .int .i64 x.q0, .int .i64 x.q1, .int .i64 x.s0, .int .i64 x.s1] 28).alloc (.cells #[.int .i64 d.c0, .int .i64 d.c1, .int .i64 d.f0, .int .i64 d.f1, .int .i64 d.wa, .bool d.cl] 58)).alloc (.cells #[.int .i64 0, .int .i64 0, .int .i64 0, .int .i64 0, .int .i64 0, .int .i64 0, .int .i64 0, .int .i64 0] 28)).alloc (.cells #[.int .i64 d.c0, .int .i64 d.c1, .int .i64 d.f0, .int .i64 d.f1, .int .i64 d.wa, .bool d.cl] 58)
  have jD := ((Blk.new2 w (.cells #[.int .i64 gr, .int .i64 la, .slice va nc vcap, .int .i64 m0, .int .i64 m1, .int .i64 so, .int .i64 h0, .int .i64 h1] 26) (.cells #[.int .i64 x.b0, .int .i64 x.b1, .int .i64 x.w0, .int .i64 x.w1, .int .i64 x.q0, .int .i64 x.q1, .int .i64 x.s0, .int .i64 x.s1] 28) #[.int .i64 d.c0, .int .i64 d.c1, .int .i64 d.f0, .int .i64 d.f1, .int .i64 d.wa, .bool d.cl] 58).alloc (.cells #[.int .i64 0, .int .i64 0, .int .i64 0, .int .i64 0, .int .i64 0, .int .i64 0, .int .i64 0, .int .i64 0] 28)).alloc (.cells #[.int .i64 d.c0, .int .i64 d.c1, .int .i64 d.f0, .int .i64 d.f1, .int .i64 d.wa, .bool d.cl] 58)
  have jR := (Blk.new3 w (.cells #[.int .i64 gr, .int .i64 la, .slice va nc vcap, .int .i64 m0, .int .i64 m1, .int .i64 so, .int .i64 h0, .int .i64 h1] 26) (.cells #[.int .i64 x.b0, .int .i64 x.b1, .int .i64 x.w0, .int .i64 x.w1, .int .i64 x.q0, .int .i64 x.q1, .int .i64 x.s0, .int .i64 x.s1] 28) (.cells #[.int .i64 d.c0, .int .i64 d.c1, .int .i64 d.f0, .int .i64 d.f1, .int .i64 d.wa, .bool d.cl] 58) #[.int .i64 0, .int .i64 0, .int .i64 0, .int .i64 0, .int .i64 0, .int .i64 0, .int .i64 0, .int .i64 0] 28).alloc (.cells #[.int .i64 d.c0, .int .i64 d.c1, .int .i64 d.f0, .int .i64 d.f1, .int .i64 d.wa, .bool d.cl] 58)
  have jN : Blk (((((w.alloc (.cells #[.int .i64 gr, .int .i64 la, .slice va nc vcap, .int .i64 m0, .int .i64 m1, .int .i64 so, .int .i64 h0, .int .i64 h1] 26)).alloc (.cells #[.int .i64 x.b0, .int .i64 x.b1, .int .i64 x.w0, .int .i64 x.w1, .int .i64 x.q0, .int .i64 x.q1, .int .i64 x.s0, .int .i64 x.s1] 28)).alloc (.cells #[.int .i64 d.c0, .int .i64 d.c1, .int .i64 d.f0, .int .i64 d.f1, .int .i64 d.wa, .bool d.cl] 58)).alloc (.cells #[.int .i64 0, .int .i64 0, .int .i64 0, .int .i64 0, .int .i64 0, .int .i64 0, .int .i64 0, .int .i64 0] 28)).alloc (.cells #[.int .i64 d.c0, .int .i64 d.c1, .int .i64 d.f0, .int .i64 d.f1, .int .i64 d.wa, .bool d.cl] 58)) (w.heap.size + 1 + 1 + 1 + 1) #[.int .i64 d.c0, .int .i64 d.c1, .int .i64 d.f0, .int .i64 d.f1, .int .i64 d.wa, .bool d.cl] 58 := Blk.eq (by simpa using Blk.new ((((w.alloc (.cells #[.int .i64 gr, .int .i64 la, .slice va nc vcap, .int .i64 m0, .int .i64 m1, .int .i64 so, .int .i64 h0, .int .i64 h1] 26)).alloc (.cells #[.int .i64 x.b0, .int .i64 x.b1, .int .i64 x.w0, .int .i64 x.w1, .int .i64 x.q0, .int .i64 x.q1, .int .i64 x.s0, .int .i64 x.s1] 28)).alloc (.cells #[.int .i64 d.c0, .int .i64 d.c1, .int .i64 d.f0, .int .i64 d.f1, .int .i64 d.wa, .bool d.cl] 58)).alloc (.cells #[.int .i64 0, .int .i64 0, .int .i64 0, .int .i64 0, .int .i64 0, .int .i64 0, .int .i64 0, .int .i64 0] 28)) #[.int .i64 d.c0, .int .i64 d.c1, .int .i64 d.f0, .int .i64 d.f1, .int .i64 d.wa, .bool d.cl] 58) rfl
  have jB : Below w.heap.size w (((((w.alloc (.cells #[.int .i64 gr, .int .i64 la, .slice va nc vcap, .int .i64 m0, .int .i64 m1, .int .i64 so, .int .i64 h0, .int .i64 h1] 26)).alloc (.cells #[.int .i64 x.b0, .int .i64 x.b1, .int .i64 x.w0, .int .i64 x.w1, .int .i64 x.q0, .int .i64 x.q1, .int .i64 x.s0, .int .i64 x.s1] 28)).alloc (.cells #[.int .i64 d.c0, .int .i64 d.c1, .int .i64 d.f0, .int .i64 d.f1, .int .i64 d.wa, .bool d.cl] 58)).alloc (.cells #[.int .i64 0, .int .i64 0, .int .i64 0, .int .i64 0, .int .i64 0, .int .i64 0, .int .i64 0, .int .i64 0] 28)).alloc (.cells #[.int .i64 d.c0, .int .i64 d.c1, .int .i64 d.f0, .int .i64 d.f1, .int .i64 d.wa, .bool d.cl] 58)) := by (repeat (first | exact Below.refl _ _ | assumption | refine Below.drew ?_ | refine Below.drewN ?_ _ | refine blT ?_ | refine blU ?_))
  go_enter Tryz.func27, Tryz.ntmps27
  go_wp2_with fail
  refine (HA.out _ _ jB jN).mono ?_
  rintro e w1 ⟨rfl, hb1⟩
  replace jL := jL.call hb1
  replace jI := jI.call hb1
  replace jD := jD.call hb1
  replace jR := jR.call hb1
  replace jB := bwS jB (Nat.le_refl _) hb1
  clear hb1 jN
  by_cases hE : E = 0
  case neg =>
    have hy := Lib.hid (HZ.out hE)
    have hE2 : (E != 0) = true := by simpa using hE
    clear hE
    have zR := jR.lt
    obtain ⟨a0, a1, a2, a3, a4, a5, a6, a7⟩ := jR.c8
    have r0 := jR.free 0
    have r1 := jR.free 1
    have r2 := jR.free 2
    have r3 := jR.free 3
    have r4 := jR.free 4
    have r5 := jR.free 5
    have r6 := jR.free 6
    have r7 := jR.free 7
    have HQ := Lib.hid (jR.set8 (.int .i64 0) (.int .i64 0) (.int .i64 0) (.int .i64 0) (.int .i64 0) (.int .i64 0) (.int .i64 0) (.int .i64 0)).c8
    have HB := Lib.hid (below_set8 (c := w.heap.size + 1 + 1 + 1) jB (by omega) (.int .i64 0) (.int .i64 0) (.int .i64 0) (.int .i64 0) (.int .i64 0) (.int .i64 0) (.int .i64 0) (.int .i64 0))
    clear jB
    go_wp2
    obtain ⟨z0, z1, z2, z3, z4, z5, z6, z7⟩ := HQ.out
    refine bodyPost_ret (v := .tuple #[.agg #[.int .i64 0, .int .i64 0, .int .i64 0, .int .i64 0, .int .i64 0, .int .i64 0, .int .i64 0, .int .i64 0], .int .i64 E]) (by simp [results, Tryz.results27, go_sem, z0, z1, z2, z3, z4, z5, z6, z7]) rfl ⟨by rw [hy.out], HB.out⟩
  have hE2 : (E != 0) = false := by simpa using hE
  have HS2 := Lib.hid (HS.out hE)
  have HE := Lib.hid hE
  clear hE HS
  obtain ⟨l0, l1, l2, l3, l4, l5, l6, l7⟩ := jL.c8
  obtain ⟨i0, i1, i2, i3, i4, i5, i6, i7⟩ := jI.c8
  obtain ⟨d0, d1, d2, d3, d4, d5⟩ := jD.c6
  have zL := jL.lt
  have zI := jI.lt
  have zD := jD.lt
  go_wp2_with fail
  refine (HS2.out _ jB).mono ?_
  rintro e w2 ⟨rfl, hb2⟩
  replace jB := bwS jB (Nat.le_refl _) hb2
  replace jR := jR.call hb2
  clear hb2 l0 l1 l2 l3 l4 l5 l6 l7 i0 i1 i2 i3 i4 i5 i6 i7 d0 d1 d2 d3 d4 d5 zL zI zD hE2
  have zR := jR.lt
  obtain ⟨a0, a1, a2, a3, a4, a5, a6, a7⟩ := jR.c8
  have r0 := jR.free 0
  have r1 := jR.free 1
  have r2 := jR.free 2
  have r3 := jR.free 3
  have r4 := jR.free 4
  have r5 := jR.free 5
  have r6 := jR.free 6
  have r7 := jR.free 7
  have HQ := Lib.hid (jR.set8 (.int .i64 y.b0) (.int .i64 y.b1) (.int .i64 y.w0) (.int .i64 y.w1) (.int .i64 y.q0) (.int .i64 y.q1) (.int .i64 y.s0) (.int .i64 y.s1)).c8
  have HB := Lib.hid (below_set8 (c := w.heap.size + 1 + 1 + 1) jB (by omega) (.int .i64 y.b0) (.int .i64 y.b1) (.int .i64 y.w0) (.int .i64 y.w1) (.int .i64 y.q0) (.int .i64 y.q1) (.int .i64 y.s0) (.int .i64 y.s1))
  clear jB
  go_wp2
  obtain ⟨z0, z1, z2, z3, z4, z5, z6, z7⟩ := HQ.out
  refine bodyPost_ret (v := .tuple #[.agg #[.int .i64 y.b0, .int .i64 y.b1, .int .i64 y.w0, .int .i64 y.w1, .int .i64 y.q0, .int .i64 y.q1, .int .i64 y.s0, .int .i64 y.s1], .int .i64 0]) (by simp [results, Tryz.results27, go_sem, z0, z1, z2, z3, z4, z5, z6, z7]) rfl ⟨by rw [HE.out], HB.out⟩
theorem orE_zeros {a b : Int} (h : orE a b = 0) : a = 0 ∧ b = 0 := by
  by_cases e : a = 0
  · exact ⟨e, by rw [orE_right e] at h; exact h⟩
  · rw [orE_left e] at h
    exact absurd h e
theorem eN_zero_in {n lo hi : Int} (h : eN n lo hi = 0) : lo ≤ n ∧ n ≤ hi := by
  unfold eN at h
  split at h
  · omega
  · omega
theorem firstNZ_all (x : Nat → Int) : ∀ m i, firstNZ x i m = 0 → ∀ j, i ≤ j → j < i + m → x j = 0
  | 0, _, _, j, h1, h2 => by omega
  | m + 1, i, h, j, h1, h2 => by
    obtain ⟨a, b⟩ := orE_zeros (show orE (x i) (firstNZ x (i + 1) m) = 0 from h)
    by_cases e : j = i
    · rw [e]; exact a
    · exact firstNZ_all x m (i + 1) b j (by omega) (by omega)
theorem law_ok_of {gr la : Int} {n : Nat} {D P0 P1 : Nat → Int} {m0 m1 so h0 h1 : Int} (h : eLaw gr la n D P0 P1 m0 m1 so h0 h1 = 0) : Lw.Ok ⟨gr, la, n, D, P0, P1, m0, m1, so, h0, h1⟩ ∧ n ≤ 12 := by
  obtain ⟨a1, h⟩ := orE_zeros h
  obtain ⟨a2, h⟩ := orE_zeros h
  obtain ⟨a3, h⟩ := orE_zeros h
  obtain ⟨a4, h⟩ := orE_zeros h
  obtain ⟨a5, a6⟩ := orE_zeros h
  have b1 := eN_zero_in a1
  have b2 := eN_zero_in a2
  have b4 := eS_zero_in a4
  have b5 := eN_zero_in a5
  have b6 := eS_zero_in a6
  have hn : 1 ≤ n ∧ n ≤ 12 ∧ firstNZ (covErr D P0 P1) 0 n = 0 := by
    unfold eCs at a3
    split at a3
    · omega
    · split at a3
      · omega
      · exact ⟨by omega, by omega, a3⟩
  have hp : ∀ i, i < n → 0 ≤ P0 i ∧ P1 i ≤ 1000000 ∧ P0 i ≤ P1 i := fun i hi => by
    have q := firstNZ_all _ n 0 hn.2.2 i (by omega) (by omega)
    unfold covErr at q
    split at q
    · rename_i e
      subst e
      unfold eC at q
      exact eS_zero_in (orE_zeros (orE_zeros (orE_zeros q).2).2).1
    · unfold eC at q
      exact eS_zero_in (orE_zeros (orE_zeros (orE_zeros q).2).2).1
  exact ⟨⟨b1.1, b1.2, b2.1, b2.2, hn.1, fun i hi => by have := hp i hi; simp only; omega, fun i hi => by have := hp i hi; simp only; omega, b4.1, b4.2.2, b4.2.1, b5.1, b5.2, b6.1, b6.2.2, b6.2.1⟩, hn.2.1⟩
theorem day_ok_of {d : Dy} (h : dayErr d = 0) : d.Ok := by
  obtain ⟨a1, h⟩ := orE_zeros h
  obtain ⟨a2, a3⟩ := orE_zeros h
  have b1 := eS_zero_in a1
  have b2 := eS_zero_in a2
  have b3 := eN_zero_in a3
  exact ⟨b1.1, b1.2.2, b1.2.1, b2.1, b2.2.2, b2.2.1, b3.1, b3.2⟩
end Go.Proofs.YtdbiijldincoiaaGreat

namespace Go.Proofs.YtdbiijldincoiaaGreat
open Go.RowKit

def IceL (w : World) (v : Value) (n : Nat) (x : Nat → Ic) : Prop :=
  ∃ a cap, v = .slice a n cap ∧ n ≤ cap ∧ cap ≤ 9223372036854775807 ∧ (0 < n → ∃ b o, a = some ⟨b, o, none⟩ ∧ IcesAt w b o n x)
theorem IceL.later {w w' : World} {v : Value} {n : Nat} {x : Nat → Ic} (h : IceL w v n x) (hb : Below w.heap.size w w') : IceL w' v n x := by
  obtain ⟨a, cap, hv, h1, h2, h3⟩ := h
  refine ⟨a, cap, hv, h1, h2, fun h0 => ?_⟩
  obtain ⟨b, o, ha, hc⟩ := h3 h0
  exact ⟨b, o, ha, hc.call hb⟩
theorem iceL_of_row {W : World} {base : Nat} {v : Value} {m : Nat} {x : Nat → Ic} (h : W.ownsRow base 28 8 v m (rowsC x m)) : IceL W v m (fun i => x (i + 1)) := by
  by_cases h0 : 0 < m
  · obtain ⟨g, cap, hv, hg, hc⟩ := ices_of_row h h0
    obtain ⟨_, h2⟩ := h
    rcases h2 with ⟨_, h2⟩ | ⟨g', cap', cur, hv', _, _, hn, hm, _, _⟩
    · omega
    · rw [hv] at hv'
      simp only [Value.slice.injEq] at hv'
      unfold maxLen at hm
      exact ⟨_, cap, hv, by omega, by omega, fun _ => ⟨g, 0, rfl, hc⟩⟩
  · obtain ⟨_, h2⟩ := h
    rcases h2 with ⟨hv, h2⟩ | ⟨g', cap', cur, hv', _, _, hn, hm, _, _⟩
    · exact ⟨none, 0, by rw [hv, h2], by omega, by omega, fun h => absurd h h0⟩
    · unfold maxLen at hm
      exact ⟨_, cap', hv', hn, by omega, fun h => absurd h h0⟩
theorem addr_add (b o k : Nat) : (⟨b, o, none⟩ : Addr).add k = ⟨b, o + k, none⟩ := by unfold Addr.add; split <;> simp_all
theorem sliced_at (a : Option Addr) (b o l k cap s : Nat) (ha : a = some ⟨b, o, none⟩) (h : l < cap) : sliced a l k cap s = .slice (some ⟨b, o + l * s, none⟩) (k - l) (cap - l) := by
  unfold sliced
  rw [if_neg (by omega), ha, Option.map_some, addr_add]
theorem IceL.sl {w : World} {a : Option Addr} {n cap : Nat} {x : Nat → Ic} (h : IceL w (.slice a n cap) n x) (l k : Nat) (hl : l ≤ k) (hk : k ≤ n) : IceL w (sliced a l k cap 8) (k - l) (fun i => x (l + i)) := by
  obtain ⟨a', cap', hv, h1, h2, h3⟩ := h
  simp only [Value.slice.injEq] at hv
  obtain ⟨rfl, _, rfl⟩ := hv
  by_cases h0 : 0 < k - l
  · obtain ⟨b, o, ha, hc⟩ := h3 (by omega)
    refine ⟨_, _, sliced_at a b o l k cap 8 ha (by omega), by omega, by omega, fun _ => ⟨b, _, rfl, fun i hi => ?_⟩⟩
    have q := hc (l + i) (by omega)
    rw [show o + (l + i) * 8 = o + l * 8 + i * 8 by omega] at q
    exact q
  · exact ⟨_, _, rfl, by omega, by omega, fun h => absurd h h0⟩
theorem DaysAt.sl {w : World} {a : Option Addr} {n cap : Nat} {d : Nat → Dy} (h : DaysAt w (.slice a n cap) n d) (l k : Nat) (hl : l ≤ k) (hk : k ≤ n) : DaysAt w (sliced a l k cap 6) (k - l) (fun i => d (l + i)) := by
  obtain ⟨a', cap', hv, h1, h2, h3⟩ := h
  simp only [Value.slice.injEq] at hv
  obtain ⟨rfl, _, rfl⟩ := hv
  by_cases h0 : 0 < k - l
  · obtain ⟨b, o, ha, hc⟩ := h3 (by omega)
    refine ⟨_, _, sliced_at a b o l k cap 6 ha (by omega), by omega, by omega, fun _ => ⟨b, _, rfl, fun i hi => ?_⟩⟩
    have q := hc (l + i) (by omega)
    rw [show o + (l + i) * 6 = o + l * 6 + i * 6 by omega] at q
    exact q
  · exact ⟨_, _, rfl, by omega, by omega, fun h => absurd h h0⟩

theorem covC_len (D P0 P1 : Nat → Int) : ∀ m, (covC D P0 P1 m).length = m * 3
  | 0 => rfl
  | k + 1 => by simp [covC, covC_len D P0 P1 k]; omega
theorem covC_at (D P0 P1 : Nat → Int) (m i j : Nat) (h : i < m) (hj : j < 3) : (covC D P0 P1 m)[i * 3 + j]? = [Value.int .i64 (D i), .int .i64 (P0 i), .int .i64 (P1 i)][j]? := by
  induction m with
  | zero => omega
  | succ k ih =>
    unfold covC
    by_cases hik : i < k
    · rw [List.getElem?_append_left (by rw [covC_len]; omega)]
      exact ih hik
    · have : i = k := by omega
      subst this
      rw [List.getElem?_append_right (by rw [covC_len]; omega), covC_len]
      congr 1
      omega
theorem daysC_len (d : Nat → Dy) : ∀ m, (daysC d m).length = m * 6
  | 0 => rfl
  | k + 1 => by simp [daysC, daysC_len d k, dayC]; omega
theorem daysC_at (d : Nat → Dy) (m i j : Nat) (h : i < m) (hj : j < 6) : (daysC d m)[i * 6 + j]? = (dayC (d i))[j]? := by
  induction m with
  | zero => omega
  | succ k ih =>
    unfold daysC
    by_cases hik : i < k
    · rw [List.getElem?_append_left (by rw [daysC_len]; omega)]
      exact ih hik
    · have : i = k := by omega
      subst this
      rw [List.getElem?_append_right (by rw [daysC_len]; omega), daysC_len]
      congr 1
      omega
theorem row_at {W : World} {base s : Nat} {e : TypeId} {v : Value} {m : Nat} {xs : List Value} (h : W.ownsRow base e s v m xs) (hs : 0 < s) :
    ∃ a cap, v = .slice a m cap ∧ m ≤ cap ∧ cap ≤ 9223372036854775807 ∧ (0 < m → ∃ b, a = some ⟨b, 0, none⟩ ∧ ∀ i j, i < m → j < s → W.cell? ⟨b, 0 + i * s + j, none⟩ = xs[i * s + j]?) := by
  obtain ⟨_, h2⟩ := h
  rcases h2 with ⟨hv, h2⟩ | ⟨g, cap, cur, hv, hg, hc, hn, hm, hz, ht⟩
  · exact ⟨none, 0, by rw [hv, h2], by omega, by omega, fun h => by omega⟩
  · unfold maxLen at hm
    refine ⟨_, cap, hv, hn, by omega, fun _ => ⟨g, rfl, fun i j hi hj => ?_⟩⟩
    have hij : i * s + j < m * s := by
      have : (i + 1) * s ≤ m * s := Nat.mul_le_mul (by omega) (Nat.le_refl s)
      rw [Nat.add_mul] at this
      omega
    have e1 : cur[i * s + j]? = xs[i * s + j]? := by
      rw [← ht, List.getElem?_take_of_lt hij]
      simp
    rw [← e1, Nat.zero_add]
    have h' : W.heap[g]? = some (.cells cur e (0, 0)) := hc
    simp [World.cell?, h']
theorem covAt_of_row {W : World} {base : Nat} {v : Value} {m : Nat} {D P0 P1 : Nat → Int} (h : W.ownsRow base 74 3 v m (covC D P0 P1 m)) : CovAt W v m D P0 P1 := by
  obtain ⟨a, cap, hv, h1, h2, h3⟩ := row_at h (by decide)
  refine ⟨a, cap, hv, h1, h2, fun h0 => ?_⟩
  obtain ⟨b, ha, hc⟩ := h3 h0
  exact ⟨b, 0, ha, fun i hi => ⟨(hc i 0 hi (by decide)).trans (covC_at D P0 P1 m i 0 hi (by decide)), (hc i 1 hi (by decide)).trans (covC_at D P0 P1 m i 1 hi (by decide)), (hc i 2 hi (by decide)).trans (covC_at D P0 P1 m i 2 hi (by decide))⟩⟩
theorem daysAt_of_row {W : World} {base : Nat} {v : Value} {m : Nat} {d : Nat → Dy} (h : W.ownsRow base 58 6 v m (daysC d m)) : DaysAt W v m d := by
  obtain ⟨a, cap, hv, h1, h2, h3⟩ := row_at h (by decide)
  refine ⟨a, cap, hv, h1, h2, fun h0 => ?_⟩
  obtain ⟨b, ha, hc⟩ := h3 h0
  exact ⟨b, 0, ha, fun i hi => ⟨(hc i 0 hi (by decide)).trans (daysC_at d m i 0 hi (by decide)), (hc i 1 hi (by decide)).trans (daysC_at d m i 1 hi (by decide)), (hc i 2 hi (by decide)).trans (daysC_at d m i 2 hi (by decide)),
    (hc i 3 hi (by decide)).trans (daysC_at d m i 3 hi (by decide)), (hc i 4 hi (by decide)).trans (daysC_at d m i 4 hi (by decide)), (hc i 5 hi (by decide)).trans (daysC_at d m i 5 hi (by decide))⟩⟩

theorem slice_day (a : Option Addr) (n cap k : Nat) (hk : k ≤ cap) (w : World) : (Instr.slice 29 (.slice a n cap) none (some (.int .i64 (k : Int))) none).run Tryz.prog w = .ok (sliced a 0 k cap 6) w := by
  have e : (sizeOf (Tryz.prog.elem 29)).run Tryz.prog w = .ok 6 w := by kernel_rfl
  rw [run_slice_h w 29 a n cap (by kernel_rfl) .i64 (k : Int) (by omega) (by omega), e]
  rfl
theorem slice_day2 (a : Option Addr) (n cap k : Nat) (hk : k ≤ n) (w : World) : (Instr.slice 29 (.slice a n cap) (some (.int .i64 (k : Int))) none none).run Tryz.prog w = .ok (sliced a k n cap 6) w := by
  have e : (sizeOf (Tryz.prog.elem 29)).run Tryz.prog w = .ok 6 w := by kernel_rfl
  rw [run_slice_l w 29 a n cap (by kernel_rfl) .i64 (k : Int) (by omega) (by omega), e]
  rfl
theorem slice_ice (a : Option Addr) (n cap k : Nat) (hk : k ≤ cap) (w : World) : (Instr.slice 38 (.slice a n cap) none (some (.int .i64 (k : Int))) none).run Tryz.prog w = .ok (sliced a 0 k cap 8) w := by
  have e : (sizeOf (Tryz.prog.elem 38)).run Tryz.prog w = .ok 8 w := by kernel_rfl
  rw [run_slice_h w 38 a n cap (by kernel_rfl) .i64 (k : Int) (by omega) (by omega), e]
  rfl
theorem slice_ice2 (a : Option Addr) (n cap k : Nat) (hk : k ≤ n) (w : World) : (Instr.slice 38 (.slice a n cap) (some (.int .i64 (k : Int))) none none).run Tryz.prog w = .ok (sliced a k n cap 8) w := by
  have e : (sizeOf (Tryz.prog.elem 38)).run Tryz.prog w = .ok 8 w := by kernel_rfl
  rw [run_slice_l w 38 a n cap (by kernel_rfl) .i64 (k : Int) (by omega) (by omega), e]
  rfl

set_option maxRecDepth 100000 in
set_option maxHeartbeats 4000000 in
theorem same_some (n c1 c2 b1 o1 b2 o2 : Nat) (x : Nat → Ic) (w : World) (hn : n ≤ 1000000) (h1 : IcesAt w b1 o1 n x) (h2 : IcesAt w b2 o2 n x) :
    Calls Tryz.prog 16 #[.slice (some ⟨b1, o1, none⟩) n c1, .slice (some ⟨b2, o2, none⟩) n c2] w fun e w' => e = .returned (.bool true) ∧ Below w.heap.size w w' := by
  have H1 : Hid _ := h1
  have H2 : Hid _ := h2
  clear h1 h2
  go_enter Tryz.func16, Tryz.ntmps16
  go_wp2_with fail
  go_loopw [5] (fun i wr => ∃ k : Nat, k ≤ n ∧ i = .int .i64 k ∧ Below w.heap.size w wr) (fun i _ => n - (intOf i).toNat)
  case atStart => exact ⟨0, Nat.zero_le _, rfl, Below.refl _ _⟩
  case round =>
    obtain ⟨k, hk, rfl, hB⟩ := hrel
    by_cases hlt : k < n
    · go_upto_region 6 with fail
      refine region_still (by kernel_rfl) (by kernel_rfl) (fun U hU => ?_)
      have hB2 := hB.drew
      rw [hU] at hB2
      clear hU hB
      obtain ⟨a0, a1, a2, a3, a4, a5, a6, a7⟩ := H1.out k hlt
      obtain ⟨d0, d1, d2, d3, d4, d5, d6, d7⟩ := H2.out k hlt
      replace a0 := cell_later hB2 a0
      replace a1 := cell_later hB2 a1
      replace a2 := cell_later hB2 a2
      replace a3 := cell_later hB2 a3
      replace a4 := cell_later hB2 a4
      replace a5 := cell_later hB2 a5
      replace a6 := cell_later hB2 a6
      replace a7 := cell_later hB2 a7
      replace d0 := cell_later hB2 d0
      replace d1 := cell_later hB2 d1
      replace d2 := cell_later hB2 d2
      replace d3 := cell_later hB2 d3
      replace d4 := cell_later hB2 d4
      replace d5 := cell_later hB2 d5
      replace d6 := cell_later hB2 d6
      replace d7 := cell_later hB2 d7
      have z1 := World.block_lt_of_cell? _ _ a0
      have z2 := World.block_lt_of_cell? _ _ d0
      repeat still_step
      refine wpStill_nil ?_
      clear a0 a1 a2 a3 a4 a5 a6 a7 d0 d1 d2 d3 d4 d5 d6 d7 z1 z2
      go_wp2
      go_roundw
      case rel => exact ⟨k + 1, by omega, by go_num, hB2⟩
      case measure => simp [intOf]; omega
    · go_wp2
      go_ret
      exact ⟨rfl, hB⟩
theorem same_none (a1 a2 : Option Addr) (c1 c2 : Nat) (w : World) :
    Calls Tryz.prog 16 #[.slice a1 0 c1, .slice a2 0 c2] w fun e w' => e = .returned (.bool true) ∧ Below w.heap.size w w' := by
  go_enter Tryz.func16, Tryz.ntmps16
  go_wp2_with fail
  go_loopw [5] (fun i wr => i = .int .i64 0 ∧ Below w.heap.size w wr) (fun _ _ => 0)
  case atStart => exact ⟨rfl, Below.refl _ _⟩
  case round =>
    obtain ⟨rfl, hB⟩ := hrel
    go_wp2
    go_ret
    exact ⟨rfl, hB⟩
theorem same_yes (v1 v2 : Value) (n : Nat) (x : Nat → Ic) (w : World) (hn : n ≤ 1000000) (h1 : IceL w v1 n x) (h2 : IceL w v2 n x) :
    Calls Tryz.prog 16 #[v1, v2] w fun e w' => e = .returned (.bool true) ∧ Below w.heap.size w w' := by
  obtain ⟨a1, c1, rfl, _, _, h1⟩ := h1
  obtain ⟨a2, c2, rfl, _, _, h2⟩ := h2
  by_cases h0 : 0 < n
  · obtain ⟨b1, o1, e1, k1⟩ := h1 h0
    obtain ⟨b2, o2, e2, k2⟩ := h2 h0
    subst e1
    subst e2
    exact same_some n c1 c2 b1 o1 b2 o2 x w hn k1 k2
  · obtain rfl : n = 0 := by omega
    exact same_none a1 a2 c1 c2 w
theorem Ic.val_of_e {x : Ic} (h : x.e = 0) : x.Val := by
  have z : ∀ {a b : Int}, orE a b = 0 → a = 0 ∧ b = 0 := by
    intro a b h
    unfold orE at h
    split at h
    · rename_i e
      exact ⟨e, h⟩
    · exact ⟨h, absurd h (by assumption)⟩
  have n : ∀ {a b lo hi : Int}, eS a b lo hi = 0 → lo ≤ a ∧ a ≤ b ∧ b ≤ hi := by
    intro a b lo hi h
    unfold eS eR at h
    obtain ⟨h1, h2⟩ := z h
    obtain ⟨h3, h4⟩ := z h1
    unfold eN at h3 h4
    unfold eO at h2
    split at h3
    · omega
    · split at h4
      · omega
      · split at h2
        · rename_i q
          simp at q
          omega
        · omega
  unfold Ic.e eIce at h
  simp only [firstNZ] at h
  obtain ⟨h1, h⟩ := z h
  obtain ⟨h2, h⟩ := z h
  obtain ⟨h3, h⟩ := z h
  obtain ⟨h4, h⟩ := z h
  exact ⟨n h1, n h2, n h3, n h4⟩
end Go.Proofs.YtdbiijldincoiaaGreat

namespace Go.Proofs.YtdbiijldincoiaaGreat
open Go.RowKit

theorem day_list {W : World} {c : Nat} {d : Dy} (h : Blk W c #[.int .i64 d.c0, .int .i64 d.c1, .int .i64 d.f0, .int .i64 d.f1, .int .i64 d.wa, .bool d.cl] 58) : DaysAt W (.slice (some ⟨c, 0, none⟩) 1 1) 1 (fun _ => d) :=
  ⟨_, 1, rfl, Nat.le_refl _, by decide, fun _ => ⟨c, 0, rfl, fun i hi => by
    obtain rfl : i = 0 := by omega
    obtain ⟨a0, a1, a2, a3, a4, a5⟩ := h.c6
    exact ⟨a0, a1, a2, a3, a4, a5⟩⟩⟩
def eStep (l : Lw) (x : Ic) (d : Dy) : Int := eAll l.gr l.la l.n l.D l.P0 l.P1 l.m0 l.m1 l.so l.h0 l.h1 x 1 (fun _ => d)
def stepV (l : Lw) (x : Ic) (d : Dy) : Ic := if eStep l x d = 0 then stepI l x d else ⟨0, 0, 0, 0, 0, 0, 0, 0⟩
theorem eStep_ok {l : Lw} {x : Ic} {d : Dy} (h : eStep l x d = 0) : l.Ok ∧ l.n ≤ 12 ∧ x.Val ∧ d.Ok ∧ stepV l x d = stepI l x d := by
  have hs : stepV l x d = stepI l x d := if_pos h
  unfold eStep eAll at h
  obtain ⟨a1, h⟩ := orE_zeros h
  obtain ⟨a2, a3⟩ := orE_zeros h
  have a4 : dayErr d = 0 := by
    unfold eDs at a3
    rw [if_neg (by omega)] at a3
    exact firstNZ_all _ 1 0 a3 0 (by omega) (by omega)
  have q := law_ok_of a1
  exact ⟨q.1, q.2, Ic.val_of_e a2, day_ok_of a4, hs⟩
theorem Ic.Val.in {x : Ic} (h : x.Val) : x.In 400000000 := by
  obtain ⟨h1, h2, h3, h4⟩ := h
  constructor <;> omega
theorem fStep_any (l : Lw) (x : Ic) (d : Dy) (v : Value) (w : World) (hv : CovAt w v l.n l.D l.P0 l.P1) :
    Calls Tryz.prog 27 #[.agg #[.int .i64 l.gr, .int .i64 l.la, v, .int .i64 l.m0, .int .i64 l.m1, .int .i64 l.so, .int .i64 l.h0, .int .i64 l.h1], .agg #[.int .i64 x.b0, .int .i64 x.b1, .int .i64 x.w0, .int .i64 x.w1, .int .i64 x.q0, .int .i64 x.q1, .int .i64 x.s0, .int .i64 x.s1], .agg #[.int .i64 d.c0, .int .i64 d.c1, .int .i64 d.f0, .int .i64 d.f1, .int .i64 d.wa, .bool d.cl]] w
      fun e w' => e = .returned (.tuple #[.agg #[.int .i64 (stepV l x d).b0, .int .i64 (stepV l x d).b1, .int .i64 (stepV l x d).w0, .int .i64 (stepV l x d).w1, .int .i64 (stepV l x d).q0, .int .i64 (stepV l x d).q1, .int .i64 (stepV l x d).s0, .int .i64 (stepV l x d).s1], .int .i64 (eStep l x d)]) ∧ Below w.heap.size w w' := by
  obtain ⟨va, cap, rfl, z1, z2, z3⟩ := hv
  refine fstep_gen l.gr l.la va l.n cap l.m0 l.m1 l.so l.h0 l.h1 d x (stepV l x d) (eStep l x d) w (fun W bd hW hB => ?_) (fun h0 W hW => ?_) (fun h0 => if_neg h0)
  · exact all_any l.gr l.la (.slice va l.n cap) l.n l.D l.P0 l.P1 l.m0 l.m1 l.so l.h0 l.h1 x.b0 x.b1 x.w0 x.w1 x.q0 x.q1 x.s0 x.s1 _ 1 (fun _ => d) W (CovAt.later ⟨va, cap, rfl, z1, z2, z3⟩ hW) (day_list hB)
  · obtain ⟨h1, h2, h3, h4, h5⟩ := eStep_ok h0
    exact step_any l x d va cap W (CovAt.later ⟨va, cap, rfl, z1, z2, z3⟩ hW) h1 h3.in h4 _ h5
end Go.Proofs.YtdbiijldincoiaaGreat

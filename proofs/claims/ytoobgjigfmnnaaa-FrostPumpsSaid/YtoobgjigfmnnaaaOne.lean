/-
  The contract of frost.Step where all is valid.
-/
import Derived.Test.YtoobgjigfmnnaaaReady
set_option linter.unusedVariables false
set_option linter.unusedSimpArgs false
namespace Go.Proofs.Ytoobgjigfmnnaaa
open Go.RowKit

set_option maxRecDepth 100000 in
set_option maxHeartbeats 2000000 in
theorem one_ok (gr la : Int) (va : Option Addr) (nc vcap : Nat) (m0 m1 so h0 h1 : Int) (d : Dy) (x y : Ic) (w : World)
    (hA : ∀ W bd, Below w.heap.size w W → Blk W bd #[.int .i64 d.c0, .int .i64 d.c1, .int .i64 d.f0, .int .i64 d.f1, .int .i64 d.wa, .bool d.cl] 30 → Calls Try.prog 66 #[.agg #[.int .i64 gr, .int .i64 la, (.slice va nc vcap), .int .i64 m0, .int .i64 m1, .int .i64 so, .int .i64 h0, .int .i64 h1], .agg #[.int .i64 (x).b0, .int .i64 (x).b1, .int .i64 (x).w0, .int .i64 (x).w1, .int .i64 (x).q0, .int .i64 (x).q1, .int .i64 (x).s0, .int .i64 (x).s1], .slice (some ⟨bd, 0, none⟩) 1 1] W fun e w' => e = .returned (.int .i64 0) ∧ Below W.heap.size W w')
    (hS : ∀ W, Below w.heap.size w W → Calls Try.prog 67 #[.agg #[.int .i64 gr, .int .i64 la, (.slice va nc vcap), .int .i64 m0, .int .i64 m1, .int .i64 so, .int .i64 h0, .int .i64 h1], .agg #[.int .i64 (x).b0, .int .i64 (x).b1, .int .i64 (x).w0, .int .i64 (x).w1, .int .i64 (x).q0, .int .i64 (x).q1, .int .i64 (x).s0, .int .i64 (x).s1], .agg #[.int .i64 d.c0, .int .i64 d.c1, .int .i64 d.f0, .int .i64 d.f1, .int .i64 d.wa, .bool d.cl]] W fun e w' => e = .returned (.agg #[.int .i64 (y).b0, .int .i64 (y).b1, .int .i64 (y).w0, .int .i64 (y).w1, .int .i64 (y).q0, .int .i64 (y).q1, .int .i64 (y).s0, .int .i64 (y).s1]) ∧ Below W.heap.size W w') :
    Calls Try.prog 19 #[.agg #[.int .i64 gr, .int .i64 la, (.slice va nc vcap), .int .i64 m0, .int .i64 m1, .int .i64 so, .int .i64 h0, .int .i64 h1], .agg #[.int .i64 (x).b0, .int .i64 (x).b1, .int .i64 (x).w0, .int .i64 (x).w1, .int .i64 (x).q0, .int .i64 (x).q1, .int .i64 (x).s0, .int .i64 (x).s1], .agg #[.int .i64 d.c0, .int .i64 d.c1, .int .i64 d.f0, .int .i64 d.f1, .int .i64 d.wa, .bool d.cl]] w
      fun e w' => e = .returned (.tuple #[.agg #[.int .i64 (y).b0, .int .i64 (y).b1, .int .i64 (y).w0, .int .i64 (y).w1, .int .i64 (y).q0, .int .i64 (y).q1, .int .i64 (y).s0, .int .i64 (y).s1], .int .i64 0]) ∧ Below w.heap.size w w' := by
  have HA := Lib.hid hA
  have HS := Lib.hid hS
  clear hA hS
  go_enter Try.func19, Try.ntmps19
  go_wp2_with fail
  refine (HA.out _ _ ?_ ?_).mono ?_
  · (repeat (first | exact Below.refl _ _ | assumption | refine Below.drew ?_ | refine Below.drewN ?_ _ | refine Below.setCell ?_ (by first | (simp; done) | (simp; omega) | omega) _ | refine below_alloc ?_ (by first | exact Nat.le_refl _ | (simp; done) | (simp; omega) | omega) _))
  · exact Blk.eq (by simpa using Blk.new (((((w.alloc (.cells #[.int .i64 gr, .int .i64 la, .slice va nc vcap, .int .i64 m0, .int .i64 m1, .int .i64 so, .int .i64 h0, .int .i64 h1] 26)).alloc (.cells #[.int .i64 (x).b0, .int .i64 (x).b1, .int .i64 (x).w0, .int .i64 (x).w1, .int .i64 (x).q0, .int .i64 (x).q1, .int .i64 (x).s0, .int .i64 (x).s1] 28)).alloc (.cells #[.int .i64 d.c0, .int .i64 d.c1, .int .i64 d.f0, .int .i64 d.f1, .int .i64 d.wa, .bool d.cl] 30)).alloc (.cells #[.int .i64 0, .int .i64 0, .int .i64 0, .int .i64 0, .int .i64 0, .int .i64 0, .int .i64 0, .int .i64 0] 28))) #[.int .i64 d.c0, .int .i64 d.c1, .int .i64 d.f0, .int .i64 d.f1, .int .i64 d.wa, .bool d.cl] 30) rfl
  rintro e w1 ⟨rfl, hb1⟩
  have jL := ((((Blk.new w #[.int .i64 gr, .int .i64 la, .slice va nc vcap, .int .i64 m0, .int .i64 m1, .int .i64 so, .int .i64 h0, .int .i64 h1] 26).alloc (.cells #[.int .i64 (x).b0, .int .i64 (x).b1, .int .i64 (x).w0, .int .i64 (x).w1, .int .i64 (x).q0, .int .i64 (x).q1, .int .i64 (x).s0, .int .i64 (x).s1] 28)).alloc (.cells #[.int .i64 d.c0, .int .i64 d.c1, .int .i64 d.f0, .int .i64 d.f1, .int .i64 d.wa, .bool d.cl] 30)).alloc (.cells #[.int .i64 0, .int .i64 0, .int .i64 0, .int .i64 0, .int .i64 0, .int .i64 0, .int .i64 0, .int .i64 0] 28)).alloc (.cells #[.int .i64 d.c0, .int .i64 d.c1, .int .i64 d.f0, .int .i64 d.f1, .int .i64 d.wa, .bool d.cl] 30) |>.call hb1
  have jI := (((Blk.new1 w (.cells #[.int .i64 gr, .int .i64 la, .slice va nc vcap, .int .i64 m0, .int .i64 m1, .int .i64 so, .int .i64 h0, .int .i64 h1] 26) #[.int .i64 (x).b0, .int .i64 (x).b1, .int .i64 (x).w0, .int .i64 (x).w1, .int .i64 (x).q0, .int .i64 (x).q1, .int .i64 (x).s0, .int .i64 (x).s1] 28).alloc (.cells #[.int .i64 d.c0, .int .i64 d.c1, .int .i64 d.f0, .int .i64 d.f1, .int .i64 d.wa, .bool d.cl] 30)).alloc (.cells #[.int .i64 0, .int .i64 0, .int .i64 0, .int .i64 0, .int .i64 0, .int .i64 0, .int .i64 0, .int .i64 0] 28)).alloc (.cells #[.int .i64 d.c0, .int .i64 d.c1, .int .i64 d.f0, .int .i64 d.f1, .int .i64 d.wa, .bool d.cl] 30) |>.call hb1
  have jD := ((Blk.new2 w (.cells #[.int .i64 gr, .int .i64 la, .slice va nc vcap, .int .i64 m0, .int .i64 m1, .int .i64 so, .int .i64 h0, .int .i64 h1] 26) (.cells #[.int .i64 (x).b0, .int .i64 (x).b1, .int .i64 (x).w0, .int .i64 (x).w1, .int .i64 (x).q0, .int .i64 (x).q1, .int .i64 (x).s0, .int .i64 (x).s1] 28) #[.int .i64 d.c0, .int .i64 d.c1, .int .i64 d.f0, .int .i64 d.f1, .int .i64 d.wa, .bool d.cl] 30).alloc (.cells #[.int .i64 0, .int .i64 0, .int .i64 0, .int .i64 0, .int .i64 0, .int .i64 0, .int .i64 0, .int .i64 0] 28)).alloc (.cells #[.int .i64 d.c0, .int .i64 d.c1, .int .i64 d.f0, .int .i64 d.f1, .int .i64 d.wa, .bool d.cl] 30) |>.call hb1
  have jR := (Blk.new3 w (.cells #[.int .i64 gr, .int .i64 la, .slice va nc vcap, .int .i64 m0, .int .i64 m1, .int .i64 so, .int .i64 h0, .int .i64 h1] 26) (.cells #[.int .i64 (x).b0, .int .i64 (x).b1, .int .i64 (x).w0, .int .i64 (x).w1, .int .i64 (x).q0, .int .i64 (x).q1, .int .i64 (x).s0, .int .i64 (x).s1] 28) (.cells #[.int .i64 d.c0, .int .i64 d.c1, .int .i64 d.f0, .int .i64 d.f1, .int .i64 d.wa, .bool d.cl] 30) #[.int .i64 0, .int .i64 0, .int .i64 0, .int .i64 0, .int .i64 0, .int .i64 0, .int .i64 0, .int .i64 0] 28).alloc (.cells #[.int .i64 d.c0, .int .i64 d.c1, .int .i64 d.f0, .int .i64 d.f1, .int .i64 d.wa, .bool d.cl] 30) |>.call hb1
  have jB : Below w.heap.size w w1 := below_step (by (repeat (first | exact Below.refl _ _ | assumption | refine Below.drew ?_ | refine Below.drewN ?_ _ | refine Below.setCell ?_ (by first | (simp; done) | (simp; omega) | omega) _ | refine below_alloc ?_ (by first | exact Nat.le_refl _ | (simp; done) | (simp; omega) | omega) _))) (Nat.le_refl _) hb1
  clear hb1
  obtain ⟨l0, l1, l2, l3, l4, l5, l6, l7⟩ := jL.c8
  obtain ⟨i0, i1, i2, i3, i4, i5, i6, i7⟩ := jI.c8
  obtain ⟨d0, d1, d2, d3, d4, d5⟩ := jD.c6
  have zL := jL.lt
  have zI := jI.lt
  have zD := jD.lt
  have zR := jR.lt
  go_wp2_with fail
  refine (HS.out _ jB).mono ?_
  rintro e w2 ⟨rfl, hb2⟩
  replace jB := below_step jB (Nat.le_refl _) hb2
  replace jR := jR.call hb2
  clear hb2 l0 l1 l2 l3 l4 l5 l6 l7 i0 i1 i2 i3 i4 i5 i6 i7 d0 d1 d2 d3 d4 d5 zL zI zD
  replace zR := jR.lt
  obtain ⟨a0, a1, a2, a3, a4, a5, a6, a7⟩ := jR.c8
  have r0 := jR.free 0
  have r1 := jR.free 1
  have r2 := jR.free 2
  have r3 := jR.free 3
  have r4 := jR.free 4
  have r5 := jR.free 5
  have r6 := jR.free 6
  have r7 := jR.free 7
  have HQ := Lib.hid (jR.set8 (.int .i64 y.b0) (.int .i64 y.b1) (.int .i64 y.w0) (.int .i64 y.w1) (.int .i64 y.q0) (.int .i64 y.q1) (.int .i64 y.s0) (.int .i64 y.s1)).c8
  go_wp2
  obtain ⟨z0, z1, z2, z3, z4, z5, z6, z7⟩ := HQ.out
  refine bodyPost_ret (v := .tuple #[.agg #[.int .i64 (y).b0, .int .i64 (y).b1, .int .i64 (y).w0, .int .i64 (y).w1, .int .i64 (y).q0, .int .i64 (y).q1, .int .i64 (y).s0, .int .i64 (y).s1], .int .i64 0]) (by simp [results, Try.results19, go_sem, z0, z1, z2, z3, z4, z5, z6, z7]) rfl ⟨rfl, ?_⟩
  iterate 8 refine Below.setCell ?_ (by simp; omega) _
  exact jB
end Go.Proofs.Ytoobgjigfmnnaaa

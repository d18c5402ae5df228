/-
  The contract of frost.Step where all is valid.
  The laws' own examples: span, one, law, black, day.
  The laws' own examples: black, day, law.
  The example law, ice and day as records, and what is known after 1, 2 and 3 such days.
  Step and Ready at the example.
  awake says yes.
-/
import Derived.Test.YtdbiijldincoiaaGreatTail
import Derived.Test.YtdbiijldincoiaaGreatReady
set_option linter.unusedVariables false
set_option linter.unusedSimpArgs false
namespace Go.Proofs.YtdbiijldincoiaaGreat
open Go.RowKit

set_option maxRecDepth 100000 in
set_option maxHeartbeats 2000000 in
theorem one_ok (gr la : Int) (va : Option Addr) (nc vcap : Nat) (m0 m1 so h0 h1 : Int) (d : Dy) (x y : Ic) (w : World)
    (hA : ∀ W bd, Below w.heap.size w W → Blk W bd #[.int .i64 d.c0, .int .i64 d.c1, .int .i64 d.f0, .int .i64 d.f1, .int .i64 d.wa, .bool d.cl] 58 → Calls Tryz.prog 36 #[.agg #[.int .i64 gr, .int .i64 la, (.slice va nc vcap), .int .i64 m0, .int .i64 m1, .int .i64 so, .int .i64 h0, .int .i64 h1], .agg #[.int .i64 (x).b0, .int .i64 (x).b1, .int .i64 (x).w0, .int .i64 (x).w1, .int .i64 (x).q0, .int .i64 (x).q1, .int .i64 (x).s0, .int .i64 (x).s1], .slice (some ⟨bd, 0, none⟩) 1 1] W fun e w' => e = .returned (.int .i64 0) ∧ Below W.heap.size W w')
    (hS : ∀ W, Below w.heap.size w W → Calls Tryz.prog 55 #[.agg #[.int .i64 gr, .int .i64 la, (.slice va nc vcap), .int .i64 m0, .int .i64 m1, .int .i64 so, .int .i64 h0, .int .i64 h1], .agg #[.int .i64 (x).b0, .int .i64 (x).b1, .int .i64 (x).w0, .int .i64 (x).w1, .int .i64 (x).q0, .int .i64 (x).q1, .int .i64 (x).s0, .int .i64 (x).s1], .agg #[.int .i64 d.c0, .int .i64 d.c1, .int .i64 d.f0, .int .i64 d.f1, .int .i64 d.wa, .bool d.cl]] W fun e w' => e = .returned (.agg #[.int .i64 (y).b0, .int .i64 (y).b1, .int .i64 (y).w0, .int .i64 (y).w1, .int .i64 (y).q0, .int .i64 (y).q1, .int .i64 (y).s0, .int .i64 (y).s1]) ∧ Below W.heap.size W w') :
    Calls Tryz.prog 27 #[.agg #[.int .i64 gr, .int .i64 la, (.slice va nc vcap), .int .i64 m0, .int .i64 m1, .int .i64 so, .int .i64 h0, .int .i64 h1], .agg #[.int .i64 (x).b0, .int .i64 (x).b1, .int .i64 (x).w0, .int .i64 (x).w1, .int .i64 (x).q0, .int .i64 (x).q1, .int .i64 (x).s0, .int .i64 (x).s1], .agg #[.int .i64 d.c0, .int .i64 d.c1, .int .i64 d.f0, .int .i64 d.f1, .int .i64 d.wa, .bool d.cl]] w
      fun e w' => e = .returned (.tuple #[.agg #[.int .i64 (y).b0, .int .i64 (y).b1, .int .i64 (y).w0, .int .i64 (y).w1, .int .i64 (y).q0, .int .i64 (y).q1, .int .i64 (y).s0, .int .i64 (y).s1], .int .i64 0]) ∧ Below w.heap.size w w' := by
  have HA := Lib.hid hA
  have HS := Lib.hid hS
  clear hA hS
  go_enter Tryz.func27, Tryz.ntmps27
  go_wp2_with fail
  refine (HA.out _ _ ?_ ?_).mono ?_
  · (repeat (first | exact Below.refl _ _ | assumption | refine Below.drew ?_ | refine Below.drewN ?_ _ | refine blT ?_ | refine blU ?_))
  · exact Blk.eq (by simpa using Blk.new (((((w.alloc (.cells #[.int .i64 gr, .int .i64 la, .slice va nc vcap, .int .i64 m0, .int .i64 m1, .int .i64 so, .int .i64 h0, .int .i64 h1] 26)).alloc (.cells #[.int .i64 (x).b0, .int .i64 (x).b1, .int .i64 (x).w0, .int .i64 (x).w1, .int .i64 (x).q0, .int .i64 (x).q1, .int .i64 (x).s0, .int .i64 (x).s1] 28)).alloc (.cells #[.int .i64 d.c0, .int .i64 d.c1, .int .i64 d.f0, .int .i64 d.f1, .int .i64 d.wa, .bool d.cl] 58)).alloc (.cells #[.int .i64 0, .int .i64 0, .int .i64 0, .int .i64 0, .int .i64 0, .int .i64 0, .int .i64 0, .int .i64 0] 28))) #[.int .i64 d.c0, .int .i64 d.c1, .int .i64 d.f0, .int .i64 d.f1, .int .i64 d.wa, .bool d.cl] 58) rfl
  rintro e w1 ⟨rfl, hb1⟩
  have jL := ((((Blk.new w #[.int .i64 gr, .int .i64 la, .slice va nc vcap, .int .i64 m0, .int .i64 m1, .int .i64 so, .int .i64 h0, .int .i64 h1] 26).alloc (.cells #[.int .i64 (x).b0, .int .i64 (x).b1, .int .i64 (x).w0, .int .i64 (x).w1, .int .i64 (x).q0, .int .i64 (x).q1, .int .i64 (x).s0, .int .i64 (x).s1] 28)).alloc (.cells #[.int .i64 d.c0, .int .i64 d.c1, .int .i64 d.f0, .int .i64 d.f1, .int .i64 d.wa, .bool d.cl] 58)).alloc (.cells #[.int .i64 0, .int .i64 0, .int .i64 0, .int .i64 0, .int .i64 0, .int .i64 0, .int .i64 0, .int .i64 0] 28)).alloc (.cells #[.int .i64 d.c0, .int .i64 d.c1, .int .i64 d.f0, .int .i64 d.f1, .int .i64 d.wa, .bool d.cl] 58) |>.call hb1
  have jI := (((Blk.new1 w (.cells #[.int .i64 gr, .int .i64 la, .slice va nc vcap, .int .i64 m0, .int .i64 m1, .int .i64 so, .int .i64 h0, .int .i64 h1] 26) #[.int .i64 (x).b0, .int .i64 (x).b1, .int .i64 (x).w0, .int .i64 (x).w1, .int .i64 (x).q0, .int .i64 (x).q1, .int .i64 (x).s0, .int .i64 (x).s1] 28).alloc (.cells #[.int .i64 d.c0, .int .i64 d.c1, .int .i64 d.f0, .int .i64 d.f1, .int .i64 d.wa, .bool d.cl] 58)).alloc (.cells #[.int .i64 0, .int .i64 0, .int .i64 0, .int .i64 0, .int .i64 0, .int .i64 0, .int .i64 0, .int .i64 0] 28)).alloc (.cells #[.int .i64 d.c0, .int .i64 d.c1, .int .i64 d.f0, .int .i64 d.f1, .int .i64 d.wa, .bool d.cl] 58) |>.call hb1
  have jD := ((Blk.new2 w (.cells #[.int .i64 gr, .int .i64 la, .slice va nc vcap, .int .i64 m0, .int .i64 m1, .int .i64 so, .int .i64 h0, .int .i64 h1] 26) (.cells #[.int .i64 (x).b0, .int .i64 (x).b1, .int .i64 (x).w0, .int .i64 (x).w1, .int .i64 (x).q0, .int .i64 (x).q1, .int .i64 (x).s0, .int .i64 (x).s1] 28) #[.int .i64 d.c0, .int .i64 d.c1, .int .i64 d.f0, .int .i64 d.f1, .int .i64 d.wa, .bool d.cl] 58).alloc (.cells #[.int .i64 0, .int .i64 0, .int .i64 0, .int .i64 0, .int .i64 0, .int .i64 0, .int .i64 0, .int .i64 0] 28)).alloc (.cells #[.int .i64 d.c0, .int .i64 d.c1, .int .i64 d.f0, .int .i64 d.f1, .int .i64 d.wa, .bool d.cl] 58) |>.call hb1
  have jR := (Blk.new3 w (.cells #[.int .i64 gr, .int .i64 la, .slice va nc vcap, .int .i64 m0, .int .i64 m1, .int .i64 so, .int .i64 h0, .int .i64 h1] 26) (.cells #[.int .i64 (x).b0, .int .i64 (x).b1, .int .i64 (x).w0, .int .i64 (x).w1, .int .i64 (x).q0, .int .i64 (x).q1, .int .i64 (x).s0, .int .i64 (x).s1] 28) (.cells #[.int .i64 d.c0, .int .i64 d.c1, .int .i64 d.f0, .int .i64 d.f1, .int .i64 d.wa, .bool d.cl] 58) #[.int .i64 0, .int .i64 0, .int .i64 0, .int .i64 0, .int .i64 0, .int .i64 0, .int .i64 0, .int .i64 0] 28).alloc (.cells #[.int .i64 d.c0, .int .i64 d.c1, .int .i64 d.f0, .int .i64 d.f1, .int .i64 d.wa, .bool d.cl] 58) |>.call hb1
  have jB : Below w.heap.size w w1 := bwS (by (repeat (first | exact Below.refl _ _ | assumption | refine Below.drew ?_ | refine Below.drewN ?_ _ | refine blT ?_ | refine blU ?_))) (Nat.le_refl _) hb1
  clear hb1
  obtain ⟨l0, l1, l2, l3, l4, l5, l6, l7⟩ := jL.c8
  obtain ⟨i0, i1, i2, i3, i4, i5, i6, i7⟩ := jI.c8
  obtain ⟨d0, d1, d2, d3, d4, d5⟩ := jD.c6
  have zL := jL.lt
  have zI := jI.lt
  have zD := jD.lt
  have zR := jR.lt
  go_wp2_with fail
  refine (HS.out _ jB).mono ?_
  rintro e w2 ⟨rfl, hb2⟩
  replace jB := bwS jB (Nat.le_refl _) hb2
  replace jR := jR.call hb2
  clear hb2 l0 l1 l2 l3 l4 l5 l6 l7 i0 i1 i2 i3 i4 i5 i6 i7 d0 d1 d2 d3 d4 d5 zL zI zD
  replace zR := jR.lt
  obtain ⟨a0, a1, a2, a3, a4, a5, a6, a7⟩ := jR.c8
  have r0 := jR.free 0
  have r1 := jR.free 1
  have r2 := jR.free 2
  have r3 := jR.free 3
  have r4 := jR.free 4
  have r5 := jR.free 5
  have r6 := jR.free 6
  have r7 := jR.free 7
  have HQ := Lib.hid (jR.set8 (.int .i64 y.b0) (.int .i64 y.b1) (.int .i64 y.w0) (.int .i64 y.w1) (.int .i64 y.q0) (.int .i64 y.q1) (.int .i64 y.s0) (.int .i64 y.s1)).c8
  go_wp2
  obtain ⟨z0, z1, z2, z3, z4, z5, z6, z7⟩ := HQ.out
  refine bodyPost_ret (v := .tuple #[.agg #[.int .i64 (y).b0, .int .i64 (y).b1, .int .i64 (y).w0, .int .i64 (y).w1, .int .i64 (y).q0, .int .i64 (y).q1, .int .i64 (y).s0, .int .i64 (y).s1], .int .i64 0]) (by simp [results, Tryz.results27, go_sem, z0, z1, z2, z3, z4, z5, z6, z7]) rfl ⟨rfl, ?_⟩
  iterate 8 refine Below.setCell ?_ (by simp; omega) _
  exact jB
end Go.Proofs.YtdbiijldincoiaaGreat

namespace Go.Proofs.YtdbiijldincoiaaGreat
open Go.RowKit

set_option maxRecDepth 100000 in
theorem lspan_any (a b : Int) (w : World) :
    Calls Tryz.prog 31 #[.int .i64 a, .int .i64 b] w fun e w' => e = .returned (.agg #[.int .i64 a, .int .i64 b]) ∧ Below w.heap.size w w' := by
  go_enter Tryz.func31, Tryz.ntmps31
  go_wp2
  exact bodyPost_ret (v := .agg #[.int .i64 a, .int .i64 b]) (by simp [results, Tryz.results31, go_sem]) rfl ⟨rfl, by (repeat (first | exact Below.refl _ _ | assumption | refine Below.drew ?_ | refine Below.drewN ?_ _ | refine blT ?_ | refine blU ?_))⟩

set_option maxRecDepth 100000 in
theorem lone_any (a : Int) (w : World) :
    Calls Tryz.prog 59 #[.int .i64 a] w fun e w' => e = .returned (.agg #[.int .i64 a, .int .i64 a]) ∧ Below w.heap.size w w' := by
  go_enter Tryz.func59, Tryz.ntmps59
  go_wp2_with fail
  refine (lspan_any _ _ _).mono ?_
  rintro e w1 ⟨rfl, hb1⟩
  have jB : Below w.heap.size w w1 := bwS (by (repeat (first | exact Below.refl _ _ | assumption | refine Below.drew ?_ | refine Below.drewN ?_ _ | refine blT ?_ | refine blU ?_))) (Nat.le_refl _) hb1
  have jR := (Blk.new w #[.int .i64 0, .int .i64 0] 24).call hb1
  clear hb1
  obtain ⟨a0, a1⟩ := jR.c2
  have r0 := jR.free 0
  have r1 := jR.free 1
  have zR := jR.lt
  have HQ := Lib.hid ((jR.set 0 (.int .i64 a)).set 1 (.int .i64 a)).c2
  go_wp2
  obtain ⟨z0, z1⟩ := HQ.out
  exact bodyPost_ret (v := .agg #[.int .i64 a, .int .i64 a]) (by simp [results, Tryz.results59, go_sem, z0, z1]) rfl ⟨rfl, by (repeat (first | exact Below.refl _ _ | assumption | refine Below.drew ?_ | refine Below.drewN ?_ _ | refine blT ?_ | refine blU ?_))⟩
end Go.Proofs.YtdbiijldincoiaaGreat

namespace Go.Proofs.YtdbiijldincoiaaGreat
open Go.RowKit

set_option maxRecDepth 100000 in
set_option maxHeartbeats 1000000 in
theorem lblack_any (w : World) :
    Calls Tryz.prog 29 #[] w fun e w' => e = .returned (.agg #[.int .i64 300, .int .i64 300, .int .i64 0, .int .i64 0, .int .i64 0, .int .i64 0, .int .i64 0, .int .i64 0]) ∧ Below w.heap.size w w' := by
  go_enter Tryz.func29, Tryz.ntmps29
  go_wp2_with fail
  refine (lone_any _ _).mono ?_
  rintro e w1 ⟨rfl, hb1⟩
  have jB : Below w.heap.size w w1 := bwS (by (repeat (first | exact Below.refl _ _ | assumption | refine Below.drew ?_ | refine Below.drewN ?_ _ | refine blT ?_ | refine blU ?_))) (Nat.le_refl _) hb1
  have jR := (Blk.new w #[.int .i64 0, .int .i64 0, .int .i64 0, .int .i64 0, .int .i64 0, .int .i64 0, .int .i64 0, .int .i64 0] 28).call hb1
  clear hb1
  obtain ⟨a0, a1, a2, a3, a4, a5, a6, a7⟩ := jR.c8
  have r0 := jR.free 0
  have r1 := jR.free 1
  have r2 := jR.free 2
  have r3 := jR.free 3
  have r4 := jR.free 4
  have r5 := jR.free 5
  have r6 := jR.free 6
  have r7 := jR.free 7
  have zR := jR.lt
  have HQ := Lib.hid (jR.set8 (.int .i64 300) (.int .i64 300) (.int .i64 0) (.int .i64 0) (.int .i64 0) (.int .i64 0) (.int .i64 0) (.int .i64 0)).c8
  go_wp2
  obtain ⟨z0, z1, z2, z3, z4, z5, z6, z7⟩ := HQ.out
  refine bodyPost_ret (v := .agg #[.int .i64 300, .int .i64 300, .int .i64 0, .int .i64 0, .int .i64 0, .int .i64 0, .int .i64 0, .int .i64 0]) (by simp [results, Tryz.results29, go_sem, z0, z1, z2, z3, z4, z5, z6, z7]) rfl ⟨rfl, ?_⟩
  iterate 8 refine Below.setCell ?_ (by first | (simp; done) | (simp; omega)) _
  exact jB

set_option maxRecDepth 100000 in
set_option maxHeartbeats 1000000 in
theorem lday_any (c f wa : Int) (w : World) :
    Calls Tryz.prog 30 #[.int .i64 c, .int .i64 f, .int .i64 wa] w fun e w' => e = .returned (.agg #[.int .i64 c, .int .i64 c, .int .i64 f, .int .i64 f, .int .i64 wa, .bool false]) ∧ Below w.heap.size w w' := by
  go_enter Tryz.func30, Tryz.ntmps30
  go_wp2_with fail
  refine (lone_any _ _).mono ?_
  rintro e w1 ⟨rfl, hb1⟩
  have jB : Below w.heap.size w w1 := bwS (by (repeat (first | exact Below.refl _ _ | assumption | refine Below.drew ?_ | refine Below.drewN ?_ _ | refine blT ?_ | refine blU ?_))) (Nat.le_refl _) hb1
  have jR := (Blk.new w #[.int .i64 0, .int .i64 0, .int .i64 0, .int .i64 0, .int .i64 0, .bool false] 58).call hb1
  clear hb1
  go_wp2_with fail
  refine (lone_any _ _).mono ?_
  rintro e w2 ⟨rfl, hb1⟩
  replace jB := bwS jB (Nat.le_refl _) hb1
  replace jR := jR.call hb1
  clear hb1
  obtain ⟨a0, a1, a2, a3, a4, a5⟩ := jR.c6
  have r0 := jR.free 0
  have r1 := jR.free 1
  have r2 := jR.free 2
  have r3 := jR.free 3
  have r4 := jR.free 4
  have r5 := jR.free 5
  have zR := jR.lt
  have HQ := Lib.hid (jR.set6 (.int .i64 c) (.int .i64 c) (.int .i64 f) (.int .i64 f) (.int .i64 wa) (.bool false)).c6
  go_wp2
  obtain ⟨z0, z1, z2, z3, z4, z5⟩ := HQ.out
  refine bodyPost_ret (v := .agg #[.int .i64 c, .int .i64 c, .int .i64 f, .int .i64 f, .int .i64 wa, .bool false]) (by simp [results, Tryz.results30, go_sem, z0, z1, z2, z3, z4, z5]) rfl ⟨rfl, ?_⟩
  iterate 6 refine Below.setCell ?_ (by first | (simp; done) | (simp; omega)) _
  exact jB

set_option maxRecDepth 100000 in
set_option maxHeartbeats 2000000 in
theorem llaw_any (w : World) :
    Calls Tryz.prog 28 #[] w fun e w' => ∃ c, e = .returned (.agg #[.int .i64 100, .int .i64 10, (.slice (some ⟨c, 0, none⟩) 2 2), .int .i64 100000, .int .i64 200000, .int .i64 300000, .int .i64 500000, .int .i64 600000]) ∧ w.heap.size ≤ c ∧ Blk w' c #[.int .i64 0, .int .i64 1000000, .int .i64 1000000, .int .i64 100, .int .i64 400000, .int .i64 500000] 74 ∧ Below w.heap.size w w' := by
  go_enter Tryz.func28, Tryz.ntmps28
  go_wp2_with fail
  refine (lone_any _ _).mono ?_
  rintro e w1 ⟨rfl, hb1⟩
  have jB : Below w.heap.size w w1 := bwS (by (repeat (first | exact Below.refl _ _ | assumption | refine Below.drew ?_ | refine Below.drewN ?_ _ | refine blT ?_ | refine blU ?_))) (Nat.le_refl _) hb1
  have jR := (Blk.new w #[.int .i64 0, .int .i64 0, .slice none 0 0, .int .i64 0, .int .i64 0, .int .i64 0, .int .i64 0, .int .i64 0] 26).call hb1
  clear hb1
  go_wp2_with fail
  refine (lspan_any _ _ _).mono ?_
  rintro e w2 ⟨rfl, hb1⟩
  replace jB := bwS jB (Nat.le_refl _) hb1
  replace jR := jR.call hb1
  clear hb1
  go_wp2_with fail
  refine (lspan_any _ _ _).mono ?_
  rintro e w3 ⟨rfl, hb1⟩
  have jC := (Blk.new w2 #[.int .i64 0, .int .i64 1000000, .int .i64 1000000, .int .i64 100, .int .i64 400000, .int .i64 500000] 74).call hb1
  have jc : w.heap.size ≤ w2.heap.size := jB.size
  have zN : w.heap.size < w2.heap.size := jR.lt
  replace jB := bwS (bwA jB (Nat.le_refl _) _) (Nat.le_refl _) hb1
  replace jR := (jR.alloc (.cells #[.int .i64 0, .int .i64 1000000, .int .i64 1000000, .int .i64 100, .int .i64 400000, .int .i64 500000] 74)).call hb1
  clear hb1
  go_wp2_with fail
  refine (lspan_any _ _ _).mono ?_
  rintro e w4 ⟨rfl, hb1⟩
  replace jC := jC.call hb1
  replace jB := bwS jB (Nat.le_refl _) hb1
  replace jR := jR.call hb1
  clear hb1
  obtain ⟨a0, a1, a2, a3, a4, a5, a6, a7⟩ := jR.c8
  have r0 := jR.free 0
  have r1 := jR.free 1
  have r2 := jR.free 2
  have r3 := jR.free 3
  have r4 := jR.free 4
  have r5 := jR.free 5
  have r6 := jR.free 6
  have r7 := jR.free 7
  have zR := jR.lt
  have HQ := Lib.hid (jR.set8 (.int .i64 100) (.int .i64 10) (.slice (some ⟨w2.heap.size, 0, none⟩) 2 2) (.int .i64 100000) (.int .i64 200000) (.int .i64 300000) (.int .i64 500000) (.int .i64 600000)).c8
  go_wp2
  obtain ⟨z0, z1, z2, z3, z4, z5, z6, z7⟩ := HQ.out
  refine bodyPost_ret (v := .agg #[.int .i64 100, .int .i64 10, (.slice (some ⟨w2.heap.size, 0, none⟩) 2 2), .int .i64 100000, .int .i64 200000, .int .i64 300000, .int .i64 500000, .int .i64 600000]) (by simp [results, Tryz.results28, go_sem, z0, z1, z2, z3, z4, z5, z6, z7]) rfl ⟨_, rfl, jc, ?_, ?_⟩
  · iterate 8 refine Blk.other ?_ _ _ (by simp; omega)
    exact jC
  · iterate 8 refine Below.setCell ?_ (by first | (simp; done) | (simp; omega)) _
    exact jB
end Go.Proofs.YtdbiijldincoiaaGreat

namespace Go.Proofs.YtdbiijldincoiaaGreat
def exL : Lw := ⟨100, 10, 2, fun i => cond (i == 0) 0 100, fun i => cond (i == 0) 1000000 400000, fun i => cond (i == 0) 1000000 500000, 100000, 200000, 300000, 500000, 600000⟩
def exD : Dy := ⟨160, 160, 0, 0, 0, false⟩
def exX : Nat → Ic
  | 0 => ⟨300, 300, 0, 0, 0, 0, 0, 0⟩
  | k + 1 => coldI exL (openI exL (exX k) exD) 160 160
theorem rtI_is (n r : Nat) (h1 : r * r ≤ n) (h2 : n < (r + 1) * (r + 1)) : rtI n = r := by
  unfold rtI
  rw [Int.toNat_natCast, rt_unique h1 h2]
theorem q1 : rtI 106000 = 325 := rtI_is 106000 325 (by decide) (by decide)
theorem q2 : rtI 121625 = 348 := rtI_is 121625 348 (by decide) (by decide)
theorem q3 : rtI 122276 = 349 := rtI_is 122276 349 (by decide) (by decide)
theorem q4 : rtI 137104 = 370 := rtI_is 137104 370 (by decide) (by decide)
theorem q5 : rtI 138500 = 372 := rtI_is 138500 372 (by decide) (by decide)
theorem m016 : min (0 : Int) 16 = 0 := by decide
theorem exX1 : exX 1 = ⟨325, 326, 0, 0, 0, 0, 0, 0⟩ := by
  simp [exX, coldI, openI, grownP, wetP, leftP, snowP, lastP, gotL, gotH, exL, exD, rfI, q1, m016]
theorem exX2 : exX 2 = ⟨348, 350, 0, 0, 0, 0, 0, 0⟩ := by
  unfold exX
  rw [exX1]
  simp [coldI, openI, grownP, wetP, leftP, snowP, lastP, gotL, gotH, exL, exD, rfI, q2, q3, m016]
theorem exX3 : exX 3 = ⟨370, 373, 0, 0, 0, 0, 0, 0⟩ := by
  unfold exX
  rw [exX2]
  simp [coldI, openI, grownP, wetP, leftP, snowP, lastP, gotL, gotH, exL, exD, rfI, q4, q5, m016]
theorem exL_ok : exL.Ok := by
  constructor <;> simp [exL]
  · intro i hi; match i, hi with | 0, _ => decide | 1, _ => decide
  · intro i hi; match i, hi with | 0, _ => decide | 1, _ => decide
theorem exD_ok : exD.Ok := by constructor <;> decide
theorem exX_in (k : Nat) (h : k < 3) : (exX k).In 400000000 := by
  match k, h with
  | 0, _ => constructor <;> decide
  | 1, _ => rw [exX1]; constructor <;> decide
  | 2, _ => rw [exX2]; constructor <;> decide
theorem exX_fit (k : Nat) (h : k < 3) : (exX (k + 1)).Fit := by
  match k, h with
  | 0, _ => rw [exX1]; constructor <;> decide
  | 1, _ => rw [exX2]; constructor <;> decide
  | 2, _ => rw [exX3]; constructor <;> decide
theorem ex_sure : firstI (fun i => rdyS 350 500000 (exX (i + 1))) 0 3 = 3 := by
  have a := exX1; have b := exX2; have c := exX3
  simp [firstI, rdyS, soundI, bearL, gotL, a, b, c]
theorem ex_may : firstI (fun i => rdyP 350 600000 (exX (i + 1))) 0 3 = 2 := by
  have a := exX1; have b := exX2; have c := exX3
  simp [firstI, rdyP, soundI, bearH, gotH, a, b, c]
theorem ex_law : eLaw 100 10 2 exL.D exL.P0 exL.P1 100000 200000 300000 500000 600000 = 0 := by decide +kernel
theorem ex_ice : eIce 300 300 0 0 0 0 0 0 = 0 := by decide +kernel
theorem ex_days (n : Nat) (h : n ≤ 3) : eDs n (fun _ => exD) = 0 := by
  match n, h with
  | 0, _ => decide +kernel
  | 1, _ => decide +kernel
  | 2, _ => decide +kernel
  | 3, _ => decide +kernel
end Go.Proofs.YtdbiijldincoiaaGreat

namespace Go.Proofs.YtdbiijldincoiaaGreat
open Go.RowKit

abbrev exC : Array Value := #[.int .i64 0, .int .i64 1000000, .int .i64 1000000, .int .i64 100, .int .i64 400000, .int .i64 500000]
abbrev exDC : Array Value := #[.int .i64 160, .int .i64 160, .int .i64 0, .int .i64 0, .int .i64 0, .bool false]
abbrev exDC3 : Array Value := #[.int .i64 160, .int .i64 160, .int .i64 0, .int .i64 0, .int .i64 0, .bool false, .int .i64 160, .int .i64 160, .int .i64 0, .int .i64 0, .int .i64 0, .bool false, .int .i64 160, .int .i64 160, .int .i64 0, .int .i64 0, .int .i64 0, .bool false]

theorem cov_ex {W : World} {c : Nat} (h : Blk W c exC 74) : CovAt W (.slice (some ⟨c, 0, none⟩) 2 2) 2 exL.D exL.P0 exL.P1 :=
  ⟨_, _, rfl, by decide, by decide, fun _ => ⟨c, 0, rfl, fun i hi => match i, hi with
    | 0, _ => ⟨h.cell _ rfl, h.cell _ rfl, h.cell _ rfl⟩
    | 1, _ => ⟨h.cell _ rfl, h.cell _ rfl, h.cell _ rfl⟩⟩⟩
theorem day_ex {W : World} {c : Nat} (h : Blk W c exDC 58) : DaysAt W (.slice (some ⟨c, 0, none⟩) 1 1) 1 (fun _ => exD) :=
  ⟨_, _, rfl, by decide, by decide, fun _ => ⟨c, 0, rfl, fun i hi => match i, hi with
    | 0, _ => ⟨h.cell _ rfl, h.cell _ rfl, h.cell _ rfl, h.cell _ rfl, h.cell _ rfl, h.cell _ rfl⟩⟩⟩
theorem days_cells_ex {W : World} {c : Nat} (h : Blk W c exDC3 58) : ∀ i, i < 3 → W.cell? ⟨c, 0 + i * 6, none⟩ = some (.int .i64 exD.c0) ∧ W.cell? ⟨c, 0 + i * 6 + 1, none⟩ = some (.int .i64 exD.c1) ∧ W.cell? ⟨c, 0 + i * 6 + 2, none⟩ = some (.int .i64 exD.f0) ∧
    W.cell? ⟨c, 0 + i * 6 + 3, none⟩ = some (.int .i64 exD.f1) ∧ W.cell? ⟨c, 0 + i * 6 + 4, none⟩ = some (.int .i64 exD.wa) ∧ W.cell? ⟨c, 0 + i * 6 + 5, none⟩ = some (.bool exD.cl) := fun i hi => match i, hi with
    | 0, _ => ⟨h.cell _ rfl, h.cell _ rfl, h.cell _ rfl, h.cell _ rfl, h.cell _ rfl, h.cell _ rfl⟩
    | 1, _ => ⟨h.cell _ rfl, h.cell _ rfl, h.cell _ rfl, h.cell _ rfl, h.cell _ rfl, h.cell _ rfl⟩
    | 2, _ => ⟨h.cell _ rfl, h.cell _ rfl, h.cell _ rfl, h.cell _ rfl, h.cell _ rfl, h.cell _ rfl⟩
theorem days_ex {W : World} {c : Nat} (h : Blk W c exDC3 58) : DaysAt W (.slice (some ⟨c, 0, none⟩) 3 3) 3 (fun _ => exD) :=
  ⟨_, _, rfl, by decide, by decide, fun _ => ⟨c, 0, rfl, days_cells_ex h⟩⟩

theorem all_ex (c : Nat) (vd : Value) (nd : Nat) (hn : nd ≤ 3) (W : World) (hc : Blk W c exC 74) (hd : DaysAt W vd nd (fun _ => exD)) :
    Calls Tryz.prog 36 #[.agg #[.int .i64 100, .int .i64 10, (.slice (some ⟨c, 0, none⟩) 2 2), .int .i64 100000, .int .i64 200000, .int .i64 300000, .int .i64 500000, .int .i64 600000], .agg #[.int .i64 300, .int .i64 300, .int .i64 0, .int .i64 0, .int .i64 0, .int .i64 0, .int .i64 0, .int .i64 0], vd] W fun e w' => e = .returned (.int .i64 0) ∧ Below W.heap.size W w' := by
  have h := all_any 100 10 (.slice (some ⟨c, 0, none⟩) 2 2) 2 exL.D exL.P0 exL.P1 100000 200000 300000 500000 600000 300 300 0 0 0 0 0 0 vd nd (fun _ => exD) W (cov_ex hc) hd
  rw [ex_law, ex_ice, ex_days nd hn] at h
  exact h

theorem step_ex (c : Nat) (k : Nat) (h : k < 3) (W : World) (hc : Blk W c exC 74) :
    Calls Tryz.prog 55 #[.agg #[.int .i64 100, .int .i64 10, (.slice (some ⟨c, 0, none⟩) 2 2), .int .i64 100000, .int .i64 200000, .int .i64 300000, .int .i64 500000, .int .i64 600000], .agg #[.int .i64 (exX k).b0, .int .i64 (exX k).b1, .int .i64 (exX k).w0, .int .i64 (exX k).w1, .int .i64 (exX k).q0, .int .i64 (exX k).q1, .int .i64 (exX k).s0, .int .i64 (exX k).s1], .agg #[.int .i64 160, .int .i64 160, .int .i64 0, .int .i64 0, .int .i64 0, .bool false]] W
      fun e w' => e = .returned (.agg #[.int .i64 (exX (k + 1)).b0, .int .i64 (exX (k + 1)).b1, .int .i64 (exX (k + 1)).w0, .int .i64 (exX (k + 1)).w1, .int .i64 (exX (k + 1)).q0, .int .i64 (exX (k + 1)).q1, .int .i64 (exX (k + 1)).s0, .int .i64 (exX (k + 1)).s1]) ∧ Below W.heap.size W w' :=
  step_cold exL (exX k) exD _ _ W (cov_ex hc) exL_ok (exX_in k h) exD_ok (by decide) (exX (k + 1)) rfl

theorem Step_ex (c : Nat) (w : World) (hc : Blk w c exC 74) :
    Calls Tryz.prog 27 #[.agg #[.int .i64 100, .int .i64 10, (.slice (some ⟨c, 0, none⟩) 2 2), .int .i64 100000, .int .i64 200000, .int .i64 300000, .int .i64 500000, .int .i64 600000], .agg #[.int .i64 300, .int .i64 300, .int .i64 0, .int .i64 0, .int .i64 0, .int .i64 0, .int .i64 0, .int .i64 0], .agg #[.int .i64 160, .int .i64 160, .int .i64 0, .int .i64 0, .int .i64 0, .bool false]] w
      fun e w' => e = .returned (.tuple #[.agg #[.int .i64 325, .int .i64 326, .int .i64 0, .int .i64 0, .int .i64 0, .int .i64 0, .int .i64 0, .int .i64 0], .int .i64 0]) ∧ Below w.heap.size w w' := by
  refine one_ok 100 10 (some ⟨c, 0, none⟩) 2 2 100000 200000 300000 500000 600000 exD ⟨300, 300, 0, 0, 0, 0, 0, 0⟩ ⟨325, 326, 0, 0, 0, 0, 0, 0⟩ w (fun W bd hW kd => all_ex c _ 1 (by decide) W (hc.below hW hc.lt) (day_ex kd)) (fun W hW => ?_)
  have h := step_ex c 0 (by decide) W (hc.below hW hc.lt)
  rw [exX1] at h
  exact h

theorem Ready_ex (c bd : Nat) (w : World) (hc : Blk w c exC 74) (hd : Blk w bd exDC3 58) :
    Calls Tryz.prog 23 #[.agg #[.int .i64 100, .int .i64 10, (.slice (some ⟨c, 0, none⟩) 2 2), .int .i64 100000, .int .i64 200000, .int .i64 300000, .int .i64 500000, .int .i64 600000], .agg #[.int .i64 300, .int .i64 300, .int .i64 0, .int .i64 0, .int .i64 0, .int .i64 0, .int .i64 0, .int .i64 0], .slice (some ⟨bd, 0, none⟩) 3 3, .int .i64 350] w
      fun e w' => e = .returned (.tuple #[.int .i64 3, .int .i64 2, .int .i64 0]) ∧ Below w.heap.size w w' := by
  have h := ready_ok (some ⟨bd, 0, none⟩) bd 0 3 100 10 (some ⟨c, 0, none⟩) 2 2 100000 200000 300000 500000 600000 350 (fun _ => exD) exX w 3 (by decide) (by decide) (fun _ => rfl) hd.lt (by decide) (by decide) (by decide) (by decide) (by decide) (by decide) exX_fit (days_cells_ex hd)
    (fun W hW => all_ex c _ 3 (by decide) W (hc.below hW hc.lt) (days_ex (hd.below hW hd.lt))) (fun k W hk hW => step_ex c k hk W (hc.below hW hc.lt))
  rw [ex_sure, ex_may] at h
  exact h
end Go.Proofs.YtdbiijldincoiaaGreat

namespace Go.Proofs.YtdbiijldincoiaaGreat
open Go.RowKit

set_option maxRecDepth 100000 in
set_option maxHeartbeats 4000000 in
theorem awake_any (w : World) :
    Calls Tryz.prog 7 #[] w fun e w' => e = .returned (.bool true) ∧ Below w.heap.size w w' := by
  go_enter Tryz.func7, Tryz.ntmps7
  go_wp2_with fail
  refine (llaw_any _).mono ?_
  rintro e w1 ⟨c, rfl, hcc, jC, jB⟩
  go_wp2_with fail
  refine (lblack_any _).mono ?_
  rintro e w2 ⟨rfl, hb⟩
  replace jC := jC.call hb
  replace jB := bwS jB (Nat.le_refl _) hb
  clear hb
  go_wp2_with fail
  refine (lday_any _ _ _ _).mono ?_
  rintro e w3 ⟨rfl, hb⟩
  replace jC := jC.call hb
  replace jB := bwS jB (Nat.le_refl _) hb
  clear hb
  go_wp2_with fail
  refine (Step_ex c _ jC).mono ?_
  rintro e w4 ⟨rfl, hb⟩
  replace jB := bwS jB (Nat.le_refl _) hb
  clear hb jC hcc
  have z4 : w.heap.size ≤ w4.heap.size := jB.size
  go_wp2_with fail
  have jA := Blk.new w4 #[.int .i64 325, .int .i64 326, .int .i64 0, .int .i64 0, .int .i64 0, .int .i64 0, .int .i64 0, .int .i64 0] 28
  refine (llaw_any _).mono ?_
  rintro e w5 ⟨c', rfl, hcc, jC, hb⟩
  replace jA := jA.call hb
  replace jB := bwS (bwA jB (Nat.le_refl _) _) (Nat.le_refl _) hb
  clear hb
  go_wp2_with fail
  refine (lblack_any _).mono ?_
  rintro e w6 ⟨rfl, hb⟩
  replace jA := jA.call hb
  replace jC := jC.call hb
  replace jB := bwS jB (Nat.le_refl _) hb
  clear hb
  go_wp2_with fail
  refine (lday_any _ _ _ _).mono ?_
  rintro e w7 ⟨rfl, hb⟩
  replace jA := jA.call hb
  replace jC := jC.call hb
  replace jB := bwS jB (Nat.le_refl _) hb
  clear hb
  go_wp2_with fail
  refine (lday_any _ _ _ _).mono ?_
  rintro e w8 ⟨rfl, hb⟩
  replace jA := jA.call hb
  replace jC := jC.call hb
  replace jB := bwS jB (Nat.le_refl _) hb
  clear hb
  go_wp2_with fail
  refine (lday_any _ _ _ _).mono ?_
  rintro e w9 ⟨rfl, hb⟩
  replace jA := jA.call hb
  replace jC := jC.call hb
  replace jB := bwS jB (Nat.le_refl _) hb
  clear hb
  go_wp2_with fail
  refine (Ready_ex c' _ _ (jC.alloc _) (Blk.new w9 exDC3 58)).mono ?_
  rintro e w10 ⟨rfl, hb⟩
  replace jA := (jA.alloc _).call hb
  replace jB := bwS (bwA jB (Nat.le_refl _) _) (Nat.le_refl _) hb
  clear hb jC hcc
  generalize hbA : w4.heap.size = bA at jA
  go_wp2_with fail
  have HQ : Hid (∀ W, Calls Tryz.prog 32 #[.int .i64 99] W fun e w' => e = .returned (.int .i64 9) ∧ W = w') := fun W => by
    have e9 : rtI 99 = 9 := rtI_is 99 9 (by decide) (by decide)
    have h := root_any 99 W (by decide)
    rw [e9] at h
    exact h
  clear hbA z4
  refine wp_region_held_drew (S := (fun w' => Blk w' bA #[.int .i64 325, .int .i64 326, .int .i64 0, .int .i64 0, .int .i64 0, .int .i64 0, .int .i64 0, .int .i64 0] 28 ∧ Below w.heap.size w w')) (by kernel_rfl) ?_ (fun hH => ?_)
  · (try dsimp only); (exact ⟨jA, jB.drew⟩)
  refine tkY 0 (some 24) ?_ ?_ ?_
  rotate_left
  · intro w _; go_simp; (try with_reducible rfl)
  (try simp only [cq])
  refine tkY 1 (some 25) ?_ ?_ ?_
  rotate_left
  · intro w _; go_simp; (try with_reducible rfl)
  (try simp only [cq])
  refine tkY 2 (some 26) ?_ ?_ ?_
  rotate_left
  · intro w _; go_simp; (try with_reducible rfl)
  (try simp only [cq])
  refine tkY 3 (some 27) ?_ ?_ ?_
  rotate_left
  · intro w _; go_simp; (try with_reducible rfl)
  (try simp only [cq])
  refine tkY 4 (some 28) ?_ ?_ ?_
  rotate_left
  · intro w _; go_simp; (try with_reducible rfl)
  (try simp only [cq])
  refine tkY 5 (some 29) ?_ ?_ ?_
  rotate_left
  · intro w _; go_simp; (try with_reducible rfl)
  (try simp only [cq])
  refine tkY 6 (some 30) ?_ ?_ ?_
  rotate_left
  · intro w _; go_simp; (try with_reducible rfl)
  (try simp only [cq])
  refine tkY 7 (some 31) ?_ ?_ ?_
  rotate_left
  · intro w hS0; (try dsimp only at hS0); obtain ⟨kA, _⟩ := hS0; obtain ⟨a0, a1, a2, a3, a4, a5, a6, a7⟩ := kA.c8;go_simp; (try with_reducible rfl)
  (try simp only [cq])
  refine wpAnyH_ready (rs := [8]) (by kernel_rfl) (by simp) ?_
  refine arc1 (some 32) fun K hK => ?_
  go_simp
  (refine (lspan_any _ _ _).mono ?_; rintro e w' ⟨rfl, hb⟩)
  refine hK.out _ _ ?_ (fun hH => ?_)
  · (exact ⟨hH.1.call hb, bwS hH.2 (Nat.le_refl _) hb⟩)
  clear hK K
  (try simp only [cq])
  refine tkY 9 (some 33) ?_ ?_ ?_
  rotate_left
  · intro w _; go_simp; (try with_reducible rfl)
  (try simp only [cq])
  refine tkY 10 (some 34) ?_ ?_ ?_
  rotate_left
  · intro w _; go_simp; (try with_reducible rfl)
  (try simp only [cq])
  refine tkY 11 (some 35) ?_ ?_ ?_
  rotate_left
  · intro w _; go_simp; (try with_reducible rfl)
  (try simp only [cq])
  refine tkY 12 (some 36) ?_ ?_ ?_
  rotate_left
  · intro w _; go_simp; (try with_reducible rfl)
  (try simp only [cq])
  refine tkY 13 (some 37) ?_ ?_ ?_
  rotate_left
  · intro w _; go_simp; (try with_reducible rfl)
  (try simp only [cq])
  refine tkY 14 (some 38) ?_ ?_ ?_
  rotate_left
  · intro w _; go_simp; (try with_reducible rfl)
  (try simp only [cq])
  refine tkY 15 (some 39) ?_ ?_ ?_
  rotate_left
  · intro w _; go_simp; (try with_reducible rfl)
  (try simp only [cq])
  refine tkY 16 (some 40) ?_ ?_ ?_
  rotate_left
  · intro w _; go_simp; (try with_reducible rfl)
  (try simp only [cq])
  refine tkY 17 (some 41) ?_ ?_ ?_
  rotate_left
  · intro w _; go_simp; (try with_reducible rfl)
  (try simp only [cq])
  refine tkY 18 (some 42) ?_ ?_ ?_
  rotate_left
  · intro w _; go_simp; (try with_reducible rfl)
  (try simp only [cq])
  refine tkY 19 (some 43) ?_ ?_ ?_
  rotate_left
  · intro w _; go_simp; (try with_reducible rfl)
  (try simp only [cq])
  refine tkY 20 (some 44) ?_ ?_ ?_
  rotate_left
  · intro w _; go_simp; (try with_reducible rfl)
  (try simp only [cq])
  refine wpAnyH_ready (rs := [21]) (by kernel_rfl) (by simp) ?_
  refine arc1 (some 45) fun K hK => ?_
  go_simp
  (refine (HQ.out _).mono ?_; rintro e w' ⟨rfl, rfl⟩; have hb := Below.refl w'.heap.size w')
  refine hK.out _ _ ?_ (fun hH => ?_)
  · (exact ⟨hH.1.call hb, bwS hH.2 (Nat.le_refl _) hb⟩)
  clear hK K
  (try simp only [cq])
  refine tkY 22 (some 46) ?_ ?_ ?_
  rotate_left
  · intro w _; go_simp; (try with_reducible rfl)
  (try simp only [cq])
  refine tkY 23 (some 47) ?_ ?_ ?_
  rotate_left
  · intro w _; go_simp; (try with_reducible rfl)
  (try simp only [cq])
  refine tkY 24 (some 0) ?_ ?_ ?_
  rotate_left
  · intro w _; go_simp; (try with_reducible rfl)
  (try simp only [cq])
  refine wpAnyH_done (by kernel_rfl) ?_ _
  (try dsimp only [Act.put])
  (try simp only [cq])
  have hBB : Below w.heap.size w _ := hH.2
  clear hH
  go_wp2
  go_ret
  exact ⟨rfl, hBB⟩
end Go.Proofs.YtdbiijldincoiaaGreat

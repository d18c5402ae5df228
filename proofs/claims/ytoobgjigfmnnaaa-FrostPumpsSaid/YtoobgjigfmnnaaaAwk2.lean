/-
  The laws' own examples: black, day, law.
-/
import Derived.Test.YtoobgjigfmnnaaaAwk
set_option linter.unusedVariables false
set_option linter.unusedSimpArgs false
namespace Go.Proofs.Ytoobgjigfmnnaaa
open Go.RowKit

set_option maxRecDepth 100000 in
set_option maxHeartbeats 1000000 in
theorem lblack_any (w : World) :
    Calls Try.prog 62 #[] w fun e w' => e = .returned (.agg #[.int .i64 300, .int .i64 300, .int .i64 0, .int .i64 0, .int .i64 0, .int .i64 0, .int .i64 0, .int .i64 0]) ∧ Below w.heap.size w w' := by
  go_enter Try.func62, Try.ntmps62
  go_wp2_with fail
  refine (lone_any _ _).mono ?_
  rintro e w1 ⟨rfl, hb1⟩
  have jB : Below w.heap.size w w1 := below_step (by (repeat (first | exact Below.refl _ _ | assumption | refine Below.drew ?_ | refine Below.drewN ?_ _ | refine Below.setCell ?_ (by first | (simp; done) | (simp; omega) | omega) _ | refine below_alloc ?_ (by first | exact Nat.le_refl _ | (simp; done) | (simp; omega) | omega) _))) (Nat.le_refl _) hb1
  have jR := (Blk.new w #[.int .i64 0, .int .i64 0, .int .i64 0, .int .i64 0, .int .i64 0, .int .i64 0, .int .i64 0, .int .i64 0] 28).call hb1
  clear hb1
  obtain ⟨a0, a1, a2, a3, a4, a5, a6, a7⟩ := jR.c8
  have r0 := jR.free 0
  have r1 := jR.free 1
  have r2 := jR.free 2
  have r3 := jR.free 3
  have r4 := jR.free 4
  have r5 := jR.free 5
  have r6 := jR.free 6
  have r7 := jR.free 7
  have zR := jR.lt
  have HQ := Lib.hid (jR.set8 (.int .i64 300) (.int .i64 300) (.int .i64 0) (.int .i64 0) (.int .i64 0) (.int .i64 0) (.int .i64 0) (.int .i64 0)).c8
  go_wp2
  obtain ⟨z0, z1, z2, z3, z4, z5, z6, z7⟩ := HQ.out
  refine bodyPost_ret (v := .agg #[.int .i64 300, .int .i64 300, .int .i64 0, .int .i64 0, .int .i64 0, .int .i64 0, .int .i64 0, .int .i64 0]) (by simp [results, Try.results62, go_sem, z0, z1, z2, z3, z4, z5, z6, z7]) rfl ⟨rfl, ?_⟩
  iterate 8 refine Below.setCell ?_ (by first | (simp; done) | (simp; omega)) _
  exact jB

set_option maxRecDepth 100000 in
set_option maxHeartbeats 1000000 in
theorem lday_any (c f wa : Int) (w : World) :
    Calls Try.prog 48 #[.int .i64 c, .int .i64 f, .int .i64 wa] w fun e w' => e = .returned (.agg #[.int .i64 c, .int .i64 c, .int .i64 f, .int .i64 f, .int .i64 wa, .bool false]) ∧ Below w.heap.size w w' := by
  go_enter Try.func48, Try.ntmps48
  go_wp2_with fail
  refine (lone_any _ _).mono ?_
  rintro e w1 ⟨rfl, hb1⟩
  have jB : Below w.heap.size w w1 := below_step (by (repeat (first | exact Below.refl _ _ | assumption | refine Below.drew ?_ | refine Below.drewN ?_ _ | refine Below.setCell ?_ (by first | (simp; done) | (simp; omega) | omega) _ | refine below_alloc ?_ (by first | exact Nat.le_refl _ | (simp; done) | (simp; omega) | omega) _))) (Nat.le_refl _) hb1
  have jR := (Blk.new w #[.int .i64 0, .int .i64 0, .int .i64 0, .int .i64 0, .int .i64 0, .bool false] 30).call hb1
  clear hb1
  go_wp2_with fail
  refine (lone_any _ _).mono ?_
  rintro e w2 ⟨rfl, hb1⟩
  replace jB := below_step jB (Nat.le_refl _) hb1
  replace jR := jR.call hb1
  clear hb1
  obtain ⟨a0, a1, a2, a3, a4, a5⟩ := jR.c6
  have r0 := jR.free 0
  have r1 := jR.free 1
  have r2 := jR.free 2
  have r3 := jR.free 3
  have r4 := jR.free 4
  have r5 := jR.free 5
  have zR := jR.lt
  have HQ := Lib.hid (jR.set6 (.int .i64 c) (.int .i64 c) (.int .i64 f) (.int .i64 f) (.int .i64 wa) (.bool false)).c6
  go_wp2
  obtain ⟨z0, z1, z2, z3, z4, z5⟩ := HQ.out
  refine bodyPost_ret (v := .agg #[.int .i64 c, .int .i64 c, .int .i64 f, .int .i64 f, .int .i64 wa, .bool false]) (by simp [results, Try.results48, go_sem, z0, z1, z2, z3, z4, z5]) rfl ⟨rfl, ?_⟩
  iterate 6 refine Below.setCell ?_ (by first | (simp; done) | (simp; omega)) _
  exact jB

set_option maxRecDepth 100000 in
set_option maxHeartbeats 2000000 in
theorem llaw_any (w : World) :
    Calls Try.prog 61 #[] w fun e w' => ∃ c, e = .returned (.agg #[.int .i64 100, .int .i64 10, (.slice (some ⟨c, 0, none⟩) 2 2), .int .i64 100000, .int .i64 200000, .int .i64 300000, .int .i64 500000, .int .i64 600000]) ∧ w.heap.size ≤ c ∧ Blk w' c #[.int .i64 0, .int .i64 1000000, .int .i64 1000000, .int .i64 100, .int .i64 400000, .int .i64 500000] 96 ∧ Below w.heap.size w w' := by
  go_enter Try.func61, Try.ntmps61
  go_wp2_with fail
  refine (lone_any _ _).mono ?_
  rintro e w1 ⟨rfl, hb1⟩
  have jB : Below w.heap.size w w1 := below_step (by (repeat (first | exact Below.refl _ _ | assumption | refine Below.drew ?_ | refine Below.drewN ?_ _ | refine Below.setCell ?_ (by first | (simp; done) | (simp; omega) | omega) _ | refine below_alloc ?_ (by first | exact Nat.le_refl _ | (simp; done) | (simp; omega) | omega) _))) (Nat.le_refl _) hb1
  have jR := (Blk.new w #[.int .i64 0, .int .i64 0, .slice none 0 0, .int .i64 0, .int .i64 0, .int .i64 0, .int .i64 0, .int .i64 0] 26).call hb1
  clear hb1
  go_wp2_with fail
  refine (lspan_any _ _ _).mono ?_
  rintro e w2 ⟨rfl, hb1⟩
  replace jB := below_step jB (Nat.le_refl _) hb1
  replace jR := jR.call hb1
  clear hb1
  go_wp2_with fail
  refine (lspan_any _ _ _).mono ?_
  rintro e w3 ⟨rfl, hb1⟩
  have jC := (Blk.new w2 #[.int .i64 0, .int .i64 1000000, .int .i64 1000000, .int .i64 100, .int .i64 400000, .int .i64 500000] 96).call hb1
  have jc : w.heap.size ≤ w2.heap.size := jB.size
  have zN : w.heap.size < w2.heap.size := jR.lt
  replace jB := below_step (below_alloc jB (Nat.le_refl _) _) (Nat.le_refl _) hb1
  replace jR := (jR.alloc (.cells #[.int .i64 0, .int .i64 1000000, .int .i64 1000000, .int .i64 100, .int .i64 400000, .int .i64 500000] 96)).call hb1
  clear hb1
  go_wp2_with fail
  refine (lspan_any _ _ _).mono ?_
  rintro e w4 ⟨rfl, hb1⟩
  replace jC := jC.call hb1
  replace jB := below_step jB (Nat.le_refl _) hb1
  replace jR := jR.call hb1
  clear hb1
  obtain ⟨a0, a1, a2, a3, a4, a5, a6, a7⟩ := jR.c8
  have r0 := jR.free 0
  have r1 := jR.free 1
  have r2 := jR.free 2
  have r3 := jR.free 3
  have r4 := jR.free 4
  have r5 := jR.free 5
  have r6 := jR.free 6
  have r7 := jR.free 7
  have zR := jR.lt
  have HQ := Lib.hid (jR.set8 (.int .i64 100) (.int .i64 10) (.slice (some ⟨w2.heap.size, 0, none⟩) 2 2) (.int .i64 100000) (.int .i64 200000) (.int .i64 300000) (.int .i64 500000) (.int .i64 600000)).c8
  go_wp2
  obtain ⟨z0, z1, z2, z3, z4, z5, z6, z7⟩ := HQ.out
  refine bodyPost_ret (v := .agg #[.int .i64 100, .int .i64 10, (.slice (some ⟨w2.heap.size, 0, none⟩) 2 2), .int .i64 100000, .int .i64 200000, .int .i64 300000, .int .i64 500000, .int .i64 600000]) (by simp [results, Try.results61, go_sem, z0, z1, z2, z3, z4, z5, z6, z7]) rfl ⟨_, rfl, jc, ?_, ?_⟩
  · iterate 8 refine Blk.other ?_ _ _ (by simp; omega)
    exact jC
  · iterate 8 refine Below.setCell ?_ (by first | (simp; done) | (simp; omega)) _
    exact jB
end Go.Proofs.Ytoobgjigfmnnaaa

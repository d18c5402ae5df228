/-
  The contract of frost.freeze.
-/
import Derived.Test.YtdbiijldincoiaaGreatTail
import Derived.Test.YtdbiijldincoiaaGreatFrz
set_option linter.unusedVariables false
set_option linter.unusedSimpArgs false
namespace Go.Proofs.YtdbiijldincoiaaGreat
open Go.RowKit

theorem lastP_bd (D P : Nat → Int) (s : Int) (n : Nat) (h1 : 1 ≤ n) (h : ∀ i, i < n → 0 ≤ P i ∧ P i ≤ 1000000) : ∀ k, k ≤ n → 0 ≤ lastP D P s k ∧ lastP D P s k ≤ 1000000
  | 0, _ => h 0 (by omega)
  | k + 1, hk => by
    unfold lastP
    split
    · exact h k (by omega)
    · exact lastP_bd D P s n h1 h k (by omega)

def gotL (c p : Int) : Int := c * p / 1000000
def gotH (c p : Int) : Int := (c * p + 999999) / 1000000

theorem got_facts (c p : Int) (c1 : 0 ≤ c) (c2 : c ≤ 1000) (p1 : 0 ≤ p) (p2 : p ≤ 1000000) : 0 ≤ c * p ∧ c * p ≤ 1000000000 ∧ 0 ≤ gotL c p ∧ gotL c p ≤ 100000 ∧ 0 ≤ gotH c p ∧ gotH c p ≤ 100000 := by
  have a : 0 ≤ c * p := Int.mul_nonneg c1 p1
  have b : c * p ≤ 1000 * 1000000 := Int.mul_le_mul c2 p2 p1 (by omega)
  unfold gotL gotH
  omega

set_option maxRecDepth 100000 in
set_option maxHeartbeats 4000000 in
theorem freeze_any (gr la : Int) (v : Value) (n : Nat) (D P0 P1 : Nat → Int) (m0 m1 so h0 h1 : Int) (b0 b1 w0 w1 q0 q1 s0 s1 c0 c1 : Int) (w : World) (hn : 1 ≤ n) (hv : CovAt w v n D P0 P1)
    (hP0 : ∀ i, i < n → 0 ≤ P0 i ∧ P0 i ≤ 1000000) (hP1 : ∀ i, i < n → 0 ≤ P1 i ∧ P1 i ≤ 1000000)
    (x1 : 0 ≤ gr) (x2 : gr ≤ 10000) (x3 : 1 ≤ la) (i1 : 0 ≤ b0) (i2 : b0 ≤ 1000000000) (i3 : 0 ≤ b1) (i4 : b1 ≤ 1000000000) (a1 : 0 ≤ w0) (a2 : w0 ≤ 1000000000) (a3 : 0 ≤ w1) (a4 : w1 ≤ 1000000000) (y1 : 0 ≤ q0) (y2 : q0 ≤ 1000000000) (y3 : 0 ≤ q1) (y4 : q1 ≤ 1000000000)
    (k1 : 0 ≤ c0) (k2 : c0 ≤ 1000) (k3 : 0 ≤ c1) (k4 : c1 ≤ 1000) (G0 G1 : Int) (hG0 : G0 = gotL c0 (lastP D P0 s1 n)) (hG1 : G1 = gotH c1 (lastP D P1 s0 n)) :
    Calls Tryz.prog 78 #[.agg #[.int .i64 gr, .int .i64 la, v, .int .i64 m0, .int .i64 m1, .int .i64 so, .int .i64 h0, .int .i64 h1], .agg #[.int .i64 b0, .int .i64 b1, .int .i64 w0, .int .i64 w1, .int .i64 q0, .int .i64 q1, .int .i64 s0, .int .i64 s1], .agg #[.int .i64 c0, .int .i64 c1]] w
      fun e w' => e = .returned (.agg #[.int .i64 (grownP rtI gr la b0 w1 q1 G0), .int .i64 (grownP rfI gr la b1 w0 q0 G1), .int .i64 (w0 + min q0 (G0 / la)), .int .i64 (w1 + min q1 (G1 / la)), .int .i64 (q0 - min q0 (G1 / la)), .int .i64 (q1 - min q1 (G0 / la)), .int .i64 s0, .int .i64 s1]) ∧ Below w.heap.size w w' := by
  have p0 := lastP_bd D P0 s1 n hn hP0 n (Nat.le_refl _)
  have p1 := lastP_bd D P1 s0 n hn hP1 n (Nat.le_refl _)
  obtain ⟨t1, t2, t3, t4, z1, z2⟩ := got_facts c0 _ k1 k2 p0.1 p0.2
  obtain ⟨t5, t6, z3, z4, t7, t8⟩ := got_facts c1 _ k3 k4 p1.1 p1.2
  have hT : ∀ W, Below w.heap.size w W → Calls Tryz.prog 99 #[v, .agg #[.int .i64 s0, .int .i64 s1], .agg #[.int .i64 c0, .int .i64 c1]] W fun e w' => e = .returned (.agg #[.int .i64 G0, .int .i64 G1]) ∧ Below W.heap.size W w' := fun W hW => by
    rw [hG0, hG1]
    exact through_any v n D P0 P1 s0 s1 c0 c1 W hn (hv.later hW) t1 (by omega) t5 (by omega)
  rw [← hG0] at t3 t4
  rw [← hG1] at t7 t8
  obtain ⟨va, cap, rfl, z5, z6, z7⟩ := hv
  clear z1 z2 z3 z4 z5 z6 z7
  have HT := Lib.hid hT
  clear hT hP0 hP1 hG0 hG1 t1 t2 t5 t6 p0 p1
  have X := Lib.hid (And.intro x1 (And.intro x2 x3))
  go_enter Tryz.func78, Tryz.ntmps78
  go_wp2_with fail
  refine (HT.out _ ?_).mono ?_
  · (repeat (first | exact Below.refl _ _ | assumption | refine Below.drew ?_ | refine Below.drewN ?_ _ | refine blT ?_ | refine blU ?_))
  rintro e w2 ⟨rfl, hb2⟩
  have B2 : Below w.heap.size w w2 := bwS (by (repeat (first | exact Below.refl _ _ | assumption | refine Below.drew ?_ | refine Below.drewN ?_ _ | refine blT ?_ | refine blU ?_))) (Nat.le_refl _) hb2
  have kL := ((((Blk.new w #[.int .i64 gr, .int .i64 la, .slice va n cap, .int .i64 m0, .int .i64 m1, .int .i64 so, .int .i64 h0, .int .i64 h1] 26).alloc _).alloc _).alloc _).call hb2
  have kB := (((Blk.new1 w _ #[.int .i64 b0, .int .i64 b1, .int .i64 w0, .int .i64 w1, .int .i64 q0, .int .i64 q1, .int .i64 s0, .int .i64 s1] 105).alloc _).alloc _).call hb2
  have kR := (Blk.new3 w _ _ _ #[.int .i64 0, .int .i64 0, .int .i64 0, .int .i64 0, .int .i64 0, .int .i64 0, .int .i64 0, .int .i64 0] 105).call hb2
  clear hb2
  obtain ⟨c0, c1, c2, c3, c4, c5, c6, c7⟩ := kB.c8
  have zR := kR.lt
  have zB := kB.lt
  go_wp2_with fail
  clear zB
  clear c0 c1 c2 c3 c4 c5 c6 c7
  obtain ⟨V, hV⟩ : ∃ V, (w2.alloc (.cells #[.int .i64 G0, .int .i64 G1] 24)).alloc (.cells #[.int .i64 b0, .int .i64 b1, .int .i64 w0, .int .i64 w1, .int .i64 q0, .int .i64 q1, .int .i64 s0, .int .i64 s1] 105) = V := ⟨_, rfl⟩
  have jL := (kL.alloc (.cells #[.int .i64 G0, .int .i64 G1] 24)).alloc (.cells #[.int .i64 b0, .int .i64 b1, .int .i64 w0, .int .i64 w1, .int .i64 q0, .int .i64 q1, .int .i64 s0, .int .i64 s1] 105)
  have jB := (kB.alloc (.cells #[.int .i64 G0, .int .i64 G1] 24)).alloc (.cells #[.int .i64 b0, .int .i64 b1, .int .i64 w0, .int .i64 w1, .int .i64 q0, .int .i64 q1, .int .i64 s0, .int .i64 s1] 105)
  have jR := (kR.alloc (.cells #[.int .i64 G0, .int .i64 G1] 24)).alloc (.cells #[.int .i64 b0, .int .i64 b1, .int .i64 w0, .int .i64 w1, .int .i64 q0, .int .i64 q1, .int .i64 s0, .int .i64 s1] 105)
  have jG := (Blk.new w2 #[.int .i64 G0, .int .i64 G1] 24).alloc (.cells #[.int .i64 b0, .int .i64 b1, .int .i64 w0, .int .i64 w1, .int .i64 q0, .int .i64 q1, .int .i64 s0, .int .i64 s1] 105)
  have jA := Blk.new1 w2 (.cells #[.int .i64 G0, .int .i64 G1] 24) #[.int .i64 b0, .int .i64 b1, .int .i64 w0, .int .i64 w1, .int .i64 q0, .int .i64 q1, .int .i64 s0, .int .i64 s1] 105
  have jW : Below w.heap.size w ((w2.alloc (.cells #[.int .i64 G0, .int .i64 G1] 24)).alloc (.cells #[.int .i64 b0, .int .i64 b1, .int .i64 w0, .int .i64 w1, .int .i64 q0, .int .i64 q1, .int .i64 s0, .int .i64 s1] 105)) := bwA (bwA B2 (Nat.le_refl _) _) (Nat.le_refl _) _
  rw [hV] at jL jB jR jG jA jW ⊢
  clear hV kL kB kR B2
  have jz : w.heap.size + 1 + 1 + 1 < w2.heap.size := zR
  -- the closure number 1
  refine (ends_frz1 _ _ _ (grownP rtI gr la b0 w1 q1 G0) (grownP rfI gr la b1 w0 q0 G1) _
    (fun W hW => frz1_lo gr la va n cap m0 m1 so h0 h1 b0 b1 w0 w1 q0 q1 s0 s1 G0 G1 _ _ _ W (jL.call hW) (jB.call hW) (jG.call hW) x1 x2 x3 i1 i2 i3 i4 a1 a2 a3 a4 y1 y2 y3 y4 t3 t4 t7 t8)
    (fun W hW => frz1_hi gr la va n cap m0 m1 so h0 h1 b0 b1 w0 w1 q0 q1 s0 s1 G0 G1 _ _ _ W (jL.call hW) (jB.call hW) (jG.call hW) x1 x2 x3 i1 i2 i3 i4 a1 a2 a3 a4 y1 y2 y3 y4 t3 t4 t7 t8)).mono ?_
  rintro e v1 ⟨rfl, hb⟩
  replace jW := bwS jW (Nat.le_refl _) hb
  replace jL := jL.call hb
  replace jB := jB.call hb
  replace jR := jR.call hb
  replace jG := jG.call hb
  replace jA := jA.call hb
  clear hb
  obtain ⟨X1, hX1⟩ : ∃ X, grownP rtI gr la b0 w1 q1 G0 = X := ⟨_, rfl⟩
  obtain ⟨X2, hX2⟩ : ∃ X, grownP rfI gr la b1 w0 q0 G1 = X := ⟨_, rfl⟩
  rw [hX1, hX2]
  have HX1 := Lib.hid hX1
  have HX2 := Lib.hid hX2
  clear hX1 hX2
  obtain ⟨c0, c1, c2, c3, c4, c5, c6, c7⟩ := jA.c8
  have f0 := jA.free 0
  have f1 := jA.free 1
  go_wp2_with fail
  obtain ⟨V1, hV⟩ : ∃ V, (v1.setCell ⟨w2.heap.size + 1, 0, none⟩ (.int .i64 X1)).setCell ⟨w2.heap.size + 1, 1, none⟩ (.int .i64 X2) = V := ⟨_, rfl⟩
  replace jW : Below w.heap.size w ((v1.setCell ⟨w2.heap.size + 1, 0, none⟩ (.int .i64 X1)).setCell ⟨w2.heap.size + 1, 1, none⟩ (.int .i64 X2)) := (jW.setCell (by simp; omega) _).setCell (by simp; omega) _
  replace jL : Blk ((v1.setCell ⟨w2.heap.size + 1, 0, none⟩ (.int .i64 X1)).setCell ⟨w2.heap.size + 1, 1, none⟩ (.int .i64 X2)) _ _ _ := (jL.other ⟨w2.heap.size + 1, 0, none⟩ (.int .i64 X1) (by simp; omega)).other ⟨w2.heap.size + 1, 1, none⟩ (.int .i64 X2) (by simp; omega)
  replace jB : Blk ((v1.setCell ⟨w2.heap.size + 1, 0, none⟩ (.int .i64 X1)).setCell ⟨w2.heap.size + 1, 1, none⟩ (.int .i64 X2)) _ _ _ := (jB.other ⟨w2.heap.size + 1, 0, none⟩ (.int .i64 X1) (by simp; omega)).other ⟨w2.heap.size + 1, 1, none⟩ (.int .i64 X2) (by simp; omega)
  replace jR : Blk ((v1.setCell ⟨w2.heap.size + 1, 0, none⟩ (.int .i64 X1)).setCell ⟨w2.heap.size + 1, 1, none⟩ (.int .i64 X2)) _ _ _ := (jR.other ⟨w2.heap.size + 1, 0, none⟩ (.int .i64 X1) (by simp; omega)).other ⟨w2.heap.size + 1, 1, none⟩ (.int .i64 X2) (by simp; omega)
  replace jG : Blk ((v1.setCell ⟨w2.heap.size + 1, 0, none⟩ (.int .i64 X1)).setCell ⟨w2.heap.size + 1, 1, none⟩ (.int .i64 X2)) _ _ _ := (jG.other ⟨w2.heap.size + 1, 0, none⟩ (.int .i64 X1) (by simp)).other ⟨w2.heap.size + 1, 1, none⟩ (.int .i64 X2) (by simp)
  replace jA : Blk ((v1.setCell ⟨w2.heap.size + 1, 0, none⟩ (.int .i64 X1)).setCell ⟨w2.heap.size + 1, 1, none⟩ (.int .i64 X2)) (w2.heap.size + 1) #[.int .i64 X1, .int .i64 X2, .int .i64 w0, .int .i64 w1, .int .i64 q0, .int .i64 q1, .int .i64 s0, .int .i64 s1] _ := (jA.set 0 (.int .i64 X1)).set 1 (.int .i64 X2)
  clear c0 c1 c2 c3 c4 c5 c6 c7 f0 f1
  rw [hV] at jW jL jB jR jG jA ⊢
  clear hV
  -- the closure number 2
  refine (ends_frz2 _ _ _ (w0 + min q0 (G0 / la)) (w1 + min q1 (G1 / la)) _
    (fun W hW => frz2_lo gr la va n cap m0 m1 so h0 h1 b0 b1 w0 w1 q0 q1 s0 s1 G0 G1 _ _ _ W (jL.call hW) (jB.call hW) (jG.call hW) x1 x2 x3 i1 i2 i3 i4 a1 a2 a3 a4 y1 y2 y3 y4 t3 t4 t7 t8)
    (fun W hW => frz2_hi gr la va n cap m0 m1 so h0 h1 b0 b1 w0 w1 q0 q1 s0 s1 G0 G1 _ _ _ W (jL.call hW) (jB.call hW) (jG.call hW) x1 x2 x3 i1 i2 i3 i4 a1 a2 a3 a4 y1 y2 y3 y4 t3 t4 t7 t8)).mono ?_
  rintro e v2 ⟨rfl, hb⟩
  replace jW := bwS jW (Nat.le_refl _) hb
  replace jL := jL.call hb
  replace jB := jB.call hb
  replace jR := jR.call hb
  replace jG := jG.call hb
  replace jA := jA.call hb
  clear hb
  obtain ⟨X3, hX3⟩ : ∃ X, w0 + min q0 (G0 / la) = X := ⟨_, rfl⟩
  obtain ⟨X4, hX4⟩ : ∃ X, w1 + min q1 (G1 / la) = X := ⟨_, rfl⟩
  rw [hX3, hX4]
  have HX3 := Lib.hid hX3
  have HX4 := Lib.hid hX4
  clear hX3 hX4
  obtain ⟨c0, c1, c2, c3, c4, c5, c6, c7⟩ := jA.c8
  have f0 := jA.free 2
  have f1 := jA.free 3
  go_wp2_with fail
  obtain ⟨V2, hV⟩ : ∃ V, (v2.setCell ⟨w2.heap.size + 1, 2, none⟩ (.int .i64 X3)).setCell ⟨w2.heap.size + 1, 3, none⟩ (.int .i64 X4) = V := ⟨_, rfl⟩
  replace jW : Below w.heap.size w ((v2.setCell ⟨w2.heap.size + 1, 2, none⟩ (.int .i64 X3)).setCell ⟨w2.heap.size + 1, 3, none⟩ (.int .i64 X4)) := (jW.setCell (by simp; omega) _).setCell (by simp; omega) _
  replace jL : Blk ((v2.setCell ⟨w2.heap.size + 1, 2, none⟩ (.int .i64 X3)).setCell ⟨w2.heap.size + 1, 3, none⟩ (.int .i64 X4)) _ _ _ := (jL.other ⟨w2.heap.size + 1, 2, none⟩ (.int .i64 X3) (by simp; omega)).other ⟨w2.heap.size + 1, 3, none⟩ (.int .i64 X4) (by simp; omega)
  replace jB : Blk ((v2.setCell ⟨w2.heap.size + 1, 2, none⟩ (.int .i64 X3)).setCell ⟨w2.heap.size + 1, 3, none⟩ (.int .i64 X4)) _ _ _ := (jB.other ⟨w2.heap.size + 1, 2, none⟩ (.int .i64 X3) (by simp; omega)).other ⟨w2.heap.size + 1, 3, none⟩ (.int .i64 X4) (by simp; omega)
  replace jR : Blk ((v2.setCell ⟨w2.heap.size + 1, 2, none⟩ (.int .i64 X3)).setCell ⟨w2.heap.size + 1, 3, none⟩ (.int .i64 X4)) _ _ _ := (jR.other ⟨w2.heap.size + 1, 2, none⟩ (.int .i64 X3) (by simp; omega)).other ⟨w2.heap.size + 1, 3, none⟩ (.int .i64 X4) (by simp; omega)
  replace jG : Blk ((v2.setCell ⟨w2.heap.size + 1, 2, none⟩ (.int .i64 X3)).setCell ⟨w2.heap.size + 1, 3, none⟩ (.int .i64 X4)) _ _ _ := (jG.other ⟨w2.heap.size + 1, 2, none⟩ (.int .i64 X3) (by simp)).other ⟨w2.heap.size + 1, 3, none⟩ (.int .i64 X4) (by simp)
  replace jA : Blk ((v2.setCell ⟨w2.heap.size + 1, 2, none⟩ (.int .i64 X3)).setCell ⟨w2.heap.size + 1, 3, none⟩ (.int .i64 X4)) (w2.heap.size + 1) #[.int .i64 X1, .int .i64 X2, .int .i64 X3, .int .i64 X4, .int .i64 q0, .int .i64 q1, .int .i64 s0, .int .i64 s1] _ := (jA.set 2 (.int .i64 X3)).set 3 (.int .i64 X4)
  clear c0 c1 c2 c3 c4 c5 c6 c7 f0 f1
  rw [hV] at jW jL jB jR jG jA ⊢
  clear hV
  -- the closure number 3
  refine (ends_frz3 _ _ _ (q0 - min q0 (G1 / la)) (q1 - min q1 (G0 / la)) _
    (fun W hW => frz3_lo gr la va n cap m0 m1 so h0 h1 b0 b1 w0 w1 q0 q1 s0 s1 G0 G1 _ _ _ W (jL.call hW) (jB.call hW) (jG.call hW) x1 x2 x3 i1 i2 i3 i4 a1 a2 a3 a4 y1 y2 y3 y4 t3 t4 t7 t8)
    (fun W hW => frz3_hi gr la va n cap m0 m1 so h0 h1 b0 b1 w0 w1 q0 q1 s0 s1 G0 G1 _ _ _ W (jL.call hW) (jB.call hW) (jG.call hW) x1 x2 x3 i1 i2 i3 i4 a1 a2 a3 a4 y1 y2 y3 y4 t3 t4 t7 t8)).mono ?_
  rintro e v3 ⟨rfl, hb⟩
  replace jW := bwS jW (Nat.le_refl _) hb
  replace jL := jL.call hb
  replace jB := jB.call hb
  replace jR := jR.call hb
  replace jG := jG.call hb
  replace jA := jA.call hb
  clear hb
  obtain ⟨X5, hX5⟩ : ∃ X, q0 - min q0 (G1 / la) = X := ⟨_, rfl⟩
  obtain ⟨X6, hX6⟩ : ∃ X, q1 - min q1 (G0 / la) = X := ⟨_, rfl⟩
  rw [hX5, hX6]
  have HX5 := Lib.hid hX5
  have HX6 := Lib.hid hX6
  clear hX5 hX6
  obtain ⟨c0, c1, c2, c3, c4, c5, c6, c7⟩ := jA.c8
  have f0 := jA.free 4
  have f1 := jA.free 5
  replace jW : Below w.heap.size w ((v3.setCell ⟨w2.heap.size + 1, 4, none⟩ (.int .i64 X5)).setCell ⟨w2.heap.size + 1, 5, none⟩ (.int .i64 X6)) := (jW.setCell (by simp; omega) _).setCell (by simp; omega) _
  replace jL : Blk ((v3.setCell ⟨w2.heap.size + 1, 4, none⟩ (.int .i64 X5)).setCell ⟨w2.heap.size + 1, 5, none⟩ (.int .i64 X6)) _ _ _ := (jL.other ⟨w2.heap.size + 1, 4, none⟩ (.int .i64 X5) (by simp; omega)).other ⟨w2.heap.size + 1, 5, none⟩ (.int .i64 X6) (by simp; omega)
  replace jB : Blk ((v3.setCell ⟨w2.heap.size + 1, 4, none⟩ (.int .i64 X5)).setCell ⟨w2.heap.size + 1, 5, none⟩ (.int .i64 X6)) _ _ _ := (jB.other ⟨w2.heap.size + 1, 4, none⟩ (.int .i64 X5) (by simp; omega)).other ⟨w2.heap.size + 1, 5, none⟩ (.int .i64 X6) (by simp; omega)
  replace jR : Blk ((v3.setCell ⟨w2.heap.size + 1, 4, none⟩ (.int .i64 X5)).setCell ⟨w2.heap.size + 1, 5, none⟩ (.int .i64 X6)) _ _ _ := (jR.other ⟨w2.heap.size + 1, 4, none⟩ (.int .i64 X5) (by simp; omega)).other ⟨w2.heap.size + 1, 5, none⟩ (.int .i64 X6) (by simp; omega)
  replace jG : Blk ((v3.setCell ⟨w2.heap.size + 1, 4, none⟩ (.int .i64 X5)).setCell ⟨w2.heap.size + 1, 5, none⟩ (.int .i64 X6)) _ _ _ := (jG.other ⟨w2.heap.size + 1, 4, none⟩ (.int .i64 X5) (by simp)).other ⟨w2.heap.size + 1, 5, none⟩ (.int .i64 X6) (by simp)
  replace jA : Blk ((v3.setCell ⟨w2.heap.size + 1, 4, none⟩ (.int .i64 X5)).setCell ⟨w2.heap.size + 1, 5, none⟩ (.int .i64 X6)) (w2.heap.size + 1) #[.int .i64 X1, .int .i64 X2, .int .i64 X3, .int .i64 X4, .int .i64 X5, .int .i64 X6, .int .i64 s0, .int .i64 s1] _ := (jA.set 4 (.int .i64 X5)).set 5 (.int .i64 X6)
  obtain ⟨e0, e1, e2, e3, e4, e5, e6, e7⟩ := jA.c8
  obtain ⟨r0, r1, r2, r3, r4, r5, r6, r7⟩ := jR.c8
  have g0 := jR.free 0
  have g1 := jR.free 1
  have g2 := jR.free 2
  have g3 := jR.free 3
  have g4 := jR.free 4
  have g5 := jR.free 5
  have g6 := jR.free 6
  have g7 := jR.free 7
  have hf := (((((((jR.set 0 (.int .i64 X1)).set 1 (.int .i64 X2)).set 2 (.int .i64 X3)).set 3 (.int .i64 X4)).set 4 (.int .i64 X5)).set 5 (.int .i64 X6)).set 6 (.int .i64 s0)).set 7 (.int .i64 s1)
  have HF := Lib.hid (Blk.c8 (x0 := .int .i64 X1) (x1 := .int .i64 X2) (x2 := .int .i64 X3) (x3 := .int .i64 X4) (x4 := .int .i64 X5) (x5 := .int .i64 X6) (x6 := .int .i64 s0) (x7 := .int .i64 s1) hf)
  clear hf
  go_wp2
  obtain ⟨d0, d1, d2, d3, d4, d5, d6, d7⟩ := HF.out
  refine bodyPost_ret (v := .agg #[.int .i64 X1, .int .i64 X2, .int .i64 X3, .int .i64 X4, .int .i64 X5, .int .i64 X6, .int .i64 s0, .int .i64 s1]) (by simp [results, Tryz.results78, go_sem, d0, d1, d2, d3, d4, d5, d6, d7]) rfl ⟨by rw [HX1.out, HX2.out, HX3.out, HX4.out, HX5.out, HX6.out], ?_⟩
  iterate 8 refine Below.setCell ?_ (by simp; omega) _
  exact jW
end Go.Proofs.YtdbiijldincoiaaGreat

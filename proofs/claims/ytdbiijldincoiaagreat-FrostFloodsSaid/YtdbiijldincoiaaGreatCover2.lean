/-
  The contract of frost.cover.
-/
import Derived.Test.YtdbiijldincoiaaGreatTail
import Derived.Test.YtdbiijldincoiaaGreatCover
set_option linter.unusedVariables false
set_option linter.unusedSimpArgs false
namespace Go.Proofs.YtdbiijldincoiaaGreat
open Go.RowKit

def snowP (cl : Bool) (s f : Int) : Int := (if cl then 0 else s) + f
def wetP (wa q S so : Int) : Int := if 0 < wa then q + wa + soakP S so else q
def leftP (wa S : Int) : Int := if 0 < wa then 0 else S

set_option maxRecDepth 100000 in
set_option maxHeartbeats 4000000 in
theorem cover_cw (gr la : Int) (va : Option Addr) (n cap : Nat) (m0 m1 so h0 h1 : Int) (b0 b1 w0 w1 q0 q1 s0 s1 e0 e1 f0 f1 wa : Int) (w : World) (hw : 0 < wa)
    (o1 : 0 ≤ so) (o2 : so ≤ 1000000) (y1 : 0 ≤ q0) (y2 : q0 ≤ 1000000000) (y3 : 0 ≤ q1) (y4 : q1 ≤ 1000000000) (i1 : 0 ≤ s0) (i2 : s0 ≤ 1000000000) (i3 : 0 ≤ s1) (i4 : s1 ≤ 1000000000)
    (j1 : 0 ≤ f0) (j2 : f0 ≤ 1000) (j3 : 0 ≤ f1) (j4 : f1 ≤ 1000) (k1 : wa ≤ 200) :
    Calls Tryz.prog 75 #[.agg #[.int .i64 gr, .int .i64 la, (.slice va n cap), .int .i64 m0, .int .i64 m1, .int .i64 so, .int .i64 h0, .int .i64 h1], .agg #[.int .i64 b0, .int .i64 b1, .int .i64 w0, .int .i64 w1, .int .i64 q0, .int .i64 q1, .int .i64 s0, .int .i64 s1], .agg #[.int .i64 e0, .int .i64 e1, .int .i64 f0, .int .i64 f1, .int .i64 wa, .bool true]] w
      fun e w' => e = .returned (.agg #[.int .i64 b0, .int .i64 b1, .int .i64 w0, .int .i64 w1, .int .i64 (q0 + wa + soakP (0 + f0) so), .int .i64 (q1 + wa + soakP (0 + f1) so), .int .i64 0, .int .i64 0]) ∧ Below w.heap.size w w' := by
  go_enter Tryz.func75, Tryz.ntmps75
  go_wp2_with fail
  obtain ⟨V, hV⟩ : ∃ V, (((w.alloc (.cells #[.int .i64 gr, .int .i64 la, .slice va n cap, .int .i64 m0, .int .i64 m1, .int .i64 so, .int .i64 h0, .int .i64 h1] 26)).alloc (.cells #[.int .i64 b0, .int .i64 b1, .int .i64 w0, .int .i64 w1, .int .i64 q0, .int .i64 q1, .int .i64 0, .int .i64 0] 105)).alloc (.cells #[.int .i64 e0, .int .i64 e1, .int .i64 f0, .int .i64 f1, .int .i64 wa, .bool true] 58)).alloc (.cells #[.int .i64 0, .int .i64 0, .int .i64 0, .int .i64 0, .int .i64 0, .int .i64 0, .int .i64 0, .int .i64 0] 105) = V := ⟨_, rfl⟩
  have jL := (((Blk.new w #[.int .i64 gr, .int .i64 la, .slice va n cap, .int .i64 m0, .int .i64 m1, .int .i64 so, .int .i64 h0, .int .i64 h1] 26).alloc (.cells #[.int .i64 b0, .int .i64 b1, .int .i64 w0, .int .i64 w1, .int .i64 q0, .int .i64 q1, .int .i64 0, .int .i64 0] 105)).alloc (.cells #[.int .i64 e0, .int .i64 e1, .int .i64 f0, .int .i64 f1, .int .i64 wa, .bool true] 58)).alloc (.cells #[.int .i64 0, .int .i64 0, .int .i64 0, .int .i64 0, .int .i64 0, .int .i64 0, .int .i64 0, .int .i64 0] 105)
  have jB := ((Blk.new1 w (.cells #[.int .i64 gr, .int .i64 la, .slice va n cap, .int .i64 m0, .int .i64 m1, .int .i64 so, .int .i64 h0, .int .i64 h1] 26) #[.int .i64 b0, .int .i64 b1, .int .i64 w0, .int .i64 w1, .int .i64 q0, .int .i64 q1, .int .i64 0, .int .i64 0] 105).alloc (.cells #[.int .i64 e0, .int .i64 e1, .int .i64 f0, .int .i64 f1, .int .i64 wa, .bool true] 58)).alloc (.cells #[.int .i64 0, .int .i64 0, .int .i64 0, .int .i64 0, .int .i64 0, .int .i64 0, .int .i64 0, .int .i64 0] 105)
  have jD := (Blk.new2 w (.cells #[.int .i64 gr, .int .i64 la, .slice va n cap, .int .i64 m0, .int .i64 m1, .int .i64 so, .int .i64 h0, .int .i64 h1] 26) (.cells #[.int .i64 b0, .int .i64 b1, .int .i64 w0, .int .i64 w1, .int .i64 q0, .int .i64 q1, .int .i64 0, .int .i64 0] 105) #[.int .i64 e0, .int .i64 e1, .int .i64 f0, .int .i64 f1, .int .i64 wa, .bool true] 58).alloc (.cells #[.int .i64 0, .int .i64 0, .int .i64 0, .int .i64 0, .int .i64 0, .int .i64 0, .int .i64 0, .int .i64 0] 105)
  have jR := Blk.new3 w (.cells #[.int .i64 gr, .int .i64 la, .slice va n cap, .int .i64 m0, .int .i64 m1, .int .i64 so, .int .i64 h0, .int .i64 h1] 26) (.cells #[.int .i64 b0, .int .i64 b1, .int .i64 w0, .int .i64 w1, .int .i64 q0, .int .i64 q1, .int .i64 0, .int .i64 0] 105) (.cells #[.int .i64 e0, .int .i64 e1, .int .i64 f0, .int .i64 f1, .int .i64 wa, .bool true] 58) #[.int .i64 0, .int .i64 0, .int .i64 0, .int .i64 0, .int .i64 0, .int .i64 0, .int .i64 0, .int .i64 0] 105
  have jW : Below w.heap.size w ((((w.alloc (.cells #[.int .i64 gr, .int .i64 la, .slice va n cap, .int .i64 m0, .int .i64 m1, .int .i64 so, .int .i64 h0, .int .i64 h1] 26)).alloc (.cells #[.int .i64 b0, .int .i64 b1, .int .i64 w0, .int .i64 w1, .int .i64 q0, .int .i64 q1, .int .i64 0, .int .i64 0] 105)).alloc (.cells #[.int .i64 e0, .int .i64 e1, .int .i64 f0, .int .i64 f1, .int .i64 wa, .bool true] 58)).alloc (.cells #[.int .i64 0, .int .i64 0, .int .i64 0, .int .i64 0, .int .i64 0, .int .i64 0, .int .i64 0, .int .i64 0] 105)) := by (repeat (first | exact Below.refl _ _ | assumption | refine Below.drew ?_ | refine Below.drewN ?_ _ | refine blT ?_ | refine blU ?_))
  rw [hV] at jL jB jD jR jW ⊢
  clear hV
  refine (ends_cov1 _ _ (0 + f0) (0 + f1) _
    (fun W hW => cov1_lo b0 b1 w0 w1 q0 q1 0 0 e0 e1 f0 f1 wa true _ _ W (jB.call hW) (jD.call hW) (by omega) (by omega) j1 j2)
    (fun W hW => cov1_hi b0 b1 w0 w1 q0 q1 0 0 e0 e1 f0 f1 wa true _ _ W (jB.call hW) (jD.call hW) (by omega) (by omega) j3 j4)).mono ?_
  rintro e v1 ⟨rfl, hb⟩
  replace jW := bwS jW (Nat.le_refl _) hb
  replace jL := jL.call hb
  replace jB := jB.call hb
  replace jD := jD.call hb
  replace jR := jR.call hb
  clear hb
  obtain ⟨X1, hX1⟩ : ∃ X, (0 + f0) = X := ⟨_, rfl⟩
  obtain ⟨X2, hX2⟩ : ∃ X, (0 + f1) = X := ⟨_, rfl⟩
  have t1 : 0 ≤ X1 := by omega
  have t2 : X1 ≤ 1000001000 := by omega
  have t3 : 0 ≤ X2 := by omega
  have t4 : X2 ≤ 1000001000 := by omega
  rw [hX1, hX2]
  have HX1 := Lib.hid hX1
  have HX2 := Lib.hid hX2
  clear hX1 hX2
  obtain ⟨c0, c1, c2, c3, c4, c5, c6, c7⟩ := jB.c8
  obtain ⟨d0, d1, d2, d3, d4, d5⟩ := jD.c6
  have fb4 := jB.free 4
  have fb5 := jB.free 5
  have fb6 := jB.free 6
  have fb7 := jB.free 7
  go_wp2_with fail
  clear c0 c1 c2 c3 c4 c5 c6 c7 d0 d1 d2 d3 d4 d5 fb4 fb5 fb6 fb7
  obtain ⟨V2, hV⟩ : ∃ V, (v1.setCell ⟨w.heap.size + 1, 6, none⟩ (.int .i64 X1)).setCell ⟨w.heap.size + 1, 7, none⟩ (.int .i64 X2) = V := ⟨_, rfl⟩
  have jW2 : Below w.heap.size w ((v1.setCell ⟨w.heap.size + 1, 6, none⟩ (.int .i64 X1)).setCell ⟨w.heap.size + 1, 7, none⟩ (.int .i64 X2)) := (jW.setCell (by simp) _).setCell (by simp) _
  have jL2 : Blk ((v1.setCell ⟨w.heap.size + 1, 6, none⟩ (.int .i64 X1)).setCell ⟨w.heap.size + 1, 7, none⟩ (.int .i64 X2)) _ _ _ := (jL.other ⟨w.heap.size + 1, 6, none⟩ (.int .i64 X1) (by first | (simp; done) | (simp; omega))).other ⟨w.heap.size + 1, 7, none⟩ (.int .i64 X2) (by first | (simp; done) | (simp; omega))
  have jD2 : Blk ((v1.setCell ⟨w.heap.size + 1, 6, none⟩ (.int .i64 X1)).setCell ⟨w.heap.size + 1, 7, none⟩ (.int .i64 X2)) _ _ _ := (jD.other ⟨w.heap.size + 1, 6, none⟩ (.int .i64 X1) (by first | (simp; done) | (simp; omega))).other ⟨w.heap.size + 1, 7, none⟩ (.int .i64 X2) (by first | (simp; done) | (simp; omega))
  have jR2 : Blk ((v1.setCell ⟨w.heap.size + 1, 6, none⟩ (.int .i64 X1)).setCell ⟨w.heap.size + 1, 7, none⟩ (.int .i64 X2)) _ _ _ := (jR.other ⟨w.heap.size + 1, 6, none⟩ (.int .i64 X1) (by first | (simp; done) | (simp; omega))).other ⟨w.heap.size + 1, 7, none⟩ (.int .i64 X2) (by first | (simp; done) | (simp; omega))
  have jB2 : Blk ((v1.setCell ⟨w.heap.size + 1, 6, none⟩ (.int .i64 X1)).setCell ⟨w.heap.size + 1, 7, none⟩ (.int .i64 X2)) (w.heap.size + 1) #[.int .i64 b0, .int .i64 b1, .int .i64 w0, .int .i64 w1, .int .i64 q0, .int .i64 q1, .int .i64 X1, .int .i64 X2] _ := (jB.set 6 (.int .i64 X1)).set 7 (.int .i64 X2)
  rw [hV] at jL2 jB2 jD2 jR2 jW2 ⊢
  clear hV jL jB jD jR jW
  refine (ends_cov2 _ _ _ (q0 + wa + soakP X1 so) (q1 + wa + soakP X2 so) _
    (fun W hW => cov2_lo gr la va n cap m0 m1 so h0 h1 b0 b1 w0 w1 q0 q1 X1 X2 e0 e1 f0 f1 wa true _ _ _ W (jB2.call hW) (jD2.call hW) (jL2.call hW) t1 t2 y1 y2 (by omega) k1 o1 o2)
    (fun W hW => cov2_hi gr la va n cap m0 m1 so h0 h1 b0 b1 w0 w1 q0 q1 X1 X2 e0 e1 f0 f1 wa true _ _ _ W (jB2.call hW) (jD2.call hW) (jL2.call hW) t3 t4 y3 y4 (by omega) k1 o1 o2)).mono ?_
  rintro e v2 ⟨rfl, hb⟩
  replace jW2 := bwS jW2 (Nat.le_refl _) hb
  replace jB2 := jB2.call hb
  replace jR2 := jR2.call hb
  clear hb jL2 jD2
  obtain ⟨X3, hX3⟩ : ∃ X, q0 + wa + soakP X1 so = X := ⟨_, rfl⟩
  obtain ⟨X4, hX4⟩ : ∃ X, q1 + wa + soakP X2 so = X := ⟨_, rfl⟩
  rw [hX3, hX4]
  have HX3 := Lib.hid hX3
  have HX4 := Lib.hid hX4
  clear hX3 hX4
  obtain ⟨c0, c1, c2, c3, c4, c5, c6, c7⟩ := jB2.c8
  have fb4 := jB2.free 4
  have fb5 := jB2.free 5
  have fb6 := jB2.free 6
  have fb7 := jB2.free 7
  replace jW2 : Below w.heap.size w ((((v2.setCell ⟨w.heap.size + 1, 4, none⟩ (.int .i64 X3)).setCell ⟨w.heap.size + 1, 5, none⟩ (.int .i64 X4)).setCell ⟨w.heap.size + 1, 6, none⟩ (.int .i64 0)).setCell ⟨w.heap.size + 1, 7, none⟩ (.int .i64 0)) := (((jW2.setCell (by simp) _).setCell (by simp) _).setCell (by simp) _).setCell (by simp) _
  replace jR2 : Blk ((((v2.setCell ⟨w.heap.size + 1, 4, none⟩ (.int .i64 X3)).setCell ⟨w.heap.size + 1, 5, none⟩ (.int .i64 X4)).setCell ⟨w.heap.size + 1, 6, none⟩ (.int .i64 0)).setCell ⟨w.heap.size + 1, 7, none⟩ (.int .i64 0)) _ _ _ := (((jR2.other ⟨w.heap.size + 1, 4, none⟩ (.int .i64 X3) (by first | (simp; done) | (simp; omega))).other ⟨w.heap.size + 1, 5, none⟩ (.int .i64 X4) (by first | (simp; done) | (simp; omega))).other ⟨w.heap.size + 1, 6, none⟩ (.int .i64 0) (by first | (simp; done) | (simp; omega))).other ⟨w.heap.size + 1, 7, none⟩ (.int .i64 0) (by first | (simp; done) | (simp; omega))
  have jB3 : Blk ((((v2.setCell ⟨w.heap.size + 1, 4, none⟩ (.int .i64 X3)).setCell ⟨w.heap.size + 1, 5, none⟩ (.int .i64 X4)).setCell ⟨w.heap.size + 1, 6, none⟩ (.int .i64 0)).setCell ⟨w.heap.size + 1, 7, none⟩ (.int .i64 0)) (w.heap.size + 1) #[.int .i64 b0, .int .i64 b1, .int .i64 w0, .int .i64 w1, .int .i64 X3, .int .i64 X4, .int .i64 0, .int .i64 0] _ := (((jB2.set 4 (.int .i64 X3)).set 5 (.int .i64 X4)).set 6 (.int .i64 0)).set 7 (.int .i64 0)
  obtain ⟨a0, a1, a2, a3, a4, a5, a6, a7⟩ := jB3.c8
  obtain ⟨r0, r1, r2, r3, r4, r5, r6, r7⟩ := jR2.c8
  have g0 := jR2.free 0
  have g1 := jR2.free 1
  have g2 := jR2.free 2
  have g3 := jR2.free 3
  have g4 := jR2.free 4
  have g5 := jR2.free 5
  have g6 := jR2.free 6
  have g7 := jR2.free 7
  have hf := ((((((((jR2.set 0 (.int .i64 b0)).set 1 (.int .i64 b1)).set 2 (.int .i64 w0)).set 3 (.int .i64 w1)).set 4 (.int .i64 X3)).set 5 (.int .i64 X4)).set 6 (.int .i64 0)).set 7 (.int .i64 0))
  have HF := Lib.hid (Blk.c8 (x0 := .int .i64 b0) (x1 := .int .i64 b1) (x2 := .int .i64 w0) (x3 := .int .i64 w1) (x4 := .int .i64 X3) (x5 := .int .i64 X4) (x6 := .int .i64 0) (x7 := .int .i64 0) hf)
  clear hf
  go_wp2
  obtain ⟨z0, z1, z2, z3, z4, z5, z6, z7⟩ := HF.out
  refine bodyPost_ret (v := .agg #[.int .i64 b0, .int .i64 b1, .int .i64 w0, .int .i64 w1, .int .i64 X3, .int .i64 X4, .int .i64 0, .int .i64 0]) (by simp [results, Tryz.results75, go_sem, z0, z1, z2, z3, z4, z5, z6, z7]) rfl ⟨by rw [← HX3.out, ← HX4.out, ← HX1.out, ← HX2.out], ?_⟩
  iterate 8 refine Below.setCell ?_ (by simp; omega) _
  exact jW2

set_option maxRecDepth 100000 in
set_option maxHeartbeats 4000000 in
theorem cover_cd (gr la : Int) (va : Option Addr) (n cap : Nat) (m0 m1 so h0 h1 : Int) (b0 b1 w0 w1 q0 q1 s0 s1 e0 e1 f0 f1 wa : Int) (w : World) (hw : ¬ 0 < wa)
    (o1 : 0 ≤ so) (o2 : so ≤ 1000000) (y1 : 0 ≤ q0) (y2 : q0 ≤ 1000000000) (y3 : 0 ≤ q1) (y4 : q1 ≤ 1000000000) (i1 : 0 ≤ s0) (i2 : s0 ≤ 1000000000) (i3 : 0 ≤ s1) (i4 : s1 ≤ 1000000000)
    (j1 : 0 ≤ f0) (j2 : f0 ≤ 1000) (j3 : 0 ≤ f1) (j4 : f1 ≤ 1000) (k1 : wa ≤ 200) :
    Calls Tryz.prog 75 #[.agg #[.int .i64 gr, .int .i64 la, (.slice va n cap), .int .i64 m0, .int .i64 m1, .int .i64 so, .int .i64 h0, .int .i64 h1], .agg #[.int .i64 b0, .int .i64 b1, .int .i64 w0, .int .i64 w1, .int .i64 q0, .int .i64 q1, .int .i64 s0, .int .i64 s1], .agg #[.int .i64 e0, .int .i64 e1, .int .i64 f0, .int .i64 f1, .int .i64 wa, .bool true]] w
      fun e w' => e = .returned (.agg #[.int .i64 b0, .int .i64 b1, .int .i64 w0, .int .i64 w1, .int .i64 q0, .int .i64 q1, .int .i64 (0 + f0), .int .i64 (0 + f1)]) ∧ Below w.heap.size w w' := by
  go_enter Tryz.func75, Tryz.ntmps75
  go_wp2_with fail
  obtain ⟨V, hV⟩ : ∃ V, (((w.alloc (.cells #[.int .i64 gr, .int .i64 la, .slice va n cap, .int .i64 m0, .int .i64 m1, .int .i64 so, .int .i64 h0, .int .i64 h1] 26)).alloc (.cells #[.int .i64 b0, .int .i64 b1, .int .i64 w0, .int .i64 w1, .int .i64 q0, .int .i64 q1, .int .i64 0, .int .i64 0] 105)).alloc (.cells #[.int .i64 e0, .int .i64 e1, .int .i64 f0, .int .i64 f1, .int .i64 wa, .bool true] 58)).alloc (.cells #[.int .i64 0, .int .i64 0, .int .i64 0, .int .i64 0, .int .i64 0, .int .i64 0, .int .i64 0, .int .i64 0] 105) = V := ⟨_, rfl⟩
  have jL := (((Blk.new w #[.int .i64 gr, .int .i64 la, .slice va n cap, .int .i64 m0, .int .i64 m1, .int .i64 so, .int .i64 h0, .int .i64 h1] 26).alloc (.cells #[.int .i64 b0, .int .i64 b1, .int .i64 w0, .int .i64 w1, .int .i64 q0, .int .i64 q1, .int .i64 0, .int .i64 0] 105)).alloc (.cells #[.int .i64 e0, .int .i64 e1, .int .i64 f0, .int .i64 f1, .int .i64 wa, .bool true] 58)).alloc (.cells #[.int .i64 0, .int .i64 0, .int .i64 0, .int .i64 0, .int .i64 0, .int .i64 0, .int .i64 0, .int .i64 0] 105)
  have jB := ((Blk.new1 w (.cells #[.int .i64 gr, .int .i64 la, .slice va n cap, .int .i64 m0, .int .i64 m1, .int .i64 so, .int .i64 h0, .int .i64 h1] 26) #[.int .i64 b0, .int .i64 b1, .int .i64 w0, .int .i64 w1, .int .i64 q0, .int .i64 q1, .int .i64 0, .int .i64 0] 105).alloc (.cells #[.int .i64 e0, .int .i64 e1, .int .i64 f0, .int .i64 f1, .int .i64 wa, .bool true] 58)).alloc (.cells #[.int .i64 0, .int .i64 0, .int .i64 0, .int .i64 0, .int .i64 0, .int .i64 0, .int .i64 0, .int .i64 0] 105)
  have jD := (Blk.new2 w (.cells #[.int .i64 gr, .int .i64 la, .slice va n cap, .int .i64 m0, .int .i64 m1, .int .i64 so, .int .i64 h0, .int .i64 h1] 26) (.cells #[.int .i64 b0, .int .i64 b1, .int .i64 w0, .int .i64 w1, .int .i64 q0, .int .i64 q1, .int .i64 0, .int .i64 0] 105) #[.int .i64 e0, .int .i64 e1, .int .i64 f0, .int .i64 f1, .int .i64 wa, .bool true] 58).alloc (.cells #[.int .i64 0, .int .i64 0, .int .i64 0, .int .i64 0, .int .i64 0, .int .i64 0, .int .i64 0, .int .i64 0] 105)
  have jR := Blk.new3 w (.cells #[.int .i64 gr, .int .i64 la, .slice va n cap, .int .i64 m0, .int .i64 m1, .int .i64 so, .int .i64 h0, .int .i64 h1] 26) (.cells #[.int .i64 b0, .int .i64 b1, .int .i64 w0, .int .i64 w1, .int .i64 q0, .int .i64 q1, .int .i64 0, .int .i64 0] 105) (.cells #[.int .i64 e0, .int .i64 e1, .int .i64 f0, .int .i64 f1, .int .i64 wa, .bool true] 58) #[.int .i64 0, .int .i64 0, .int .i64 0, .int .i64 0, .int .i64 0, .int .i64 0, .int .i64 0, .int .i64 0] 105
  have jW : Below w.heap.size w ((((w.alloc (.cells #[.int .i64 gr, .int .i64 la, .slice va n cap, .int .i64 m0, .int .i64 m1, .int .i64 so, .int .i64 h0, .int .i64 h1] 26)).alloc (.cells #[.int .i64 b0, .int .i64 b1, .int .i64 w0, .int .i64 w1, .int .i64 q0, .int .i64 q1, .int .i64 0, .int .i64 0] 105)).alloc (.cells #[.int .i64 e0, .int .i64 e1, .int .i64 f0, .int .i64 f1, .int .i64 wa, .bool true] 58)).alloc (.cells #[.int .i64 0, .int .i64 0, .int .i64 0, .int .i64 0, .int .i64 0, .int .i64 0, .int .i64 0, .int .i64 0] 105)) := by (repeat (first | exact Below.refl _ _ | assumption | refine Below.drew ?_ | refine Below.drewN ?_ _ | refine blT ?_ | refine blU ?_))
  rw [hV] at jL jB jD jR jW ⊢
  clear hV
  refine (ends_cov1 _ _ (0 + f0) (0 + f1) _
    (fun W hW => cov1_lo b0 b1 w0 w1 q0 q1 0 0 e0 e1 f0 f1 wa true _ _ W (jB.call hW) (jD.call hW) (by omega) (by omega) j1 j2)
    (fun W hW => cov1_hi b0 b1 w0 w1 q0 q1 0 0 e0 e1 f0 f1 wa true _ _ W (jB.call hW) (jD.call hW) (by omega) (by omega) j3 j4)).mono ?_
  rintro e v1 ⟨rfl, hb⟩
  replace jW := bwS jW (Nat.le_refl _) hb
  replace jL := jL.call hb
  replace jB := jB.call hb
  replace jD := jD.call hb
  replace jR := jR.call hb
  clear hb
  obtain ⟨X1, hX1⟩ : ∃ X, (0 + f0) = X := ⟨_, rfl⟩
  obtain ⟨X2, hX2⟩ : ∃ X, (0 + f1) = X := ⟨_, rfl⟩
  have t1 : 0 ≤ X1 := by omega
  have t2 : X1 ≤ 1000001000 := by omega
  have t3 : 0 ≤ X2 := by omega
  have t4 : X2 ≤ 1000001000 := by omega
  rw [hX1, hX2]
  have HX1 := Lib.hid hX1
  have HX2 := Lib.hid hX2
  clear hX1 hX2
  obtain ⟨c0, c1, c2, c3, c4, c5, c6, c7⟩ := jB.c8
  obtain ⟨d0, d1, d2, d3, d4, d5⟩ := jD.c6
  have fb4 := jB.free 4
  have fb5 := jB.free 5
  have fb6 := jB.free 6
  have fb7 := jB.free 7
  have jW2 : Below w.heap.size w ((v1.setCell ⟨w.heap.size + 1, 6, none⟩ (.int .i64 X1)).setCell ⟨w.heap.size + 1, 7, none⟩ (.int .i64 X2)) := (jW.setCell (by simp) _).setCell (by simp) _
  have jL2 : Blk ((v1.setCell ⟨w.heap.size + 1, 6, none⟩ (.int .i64 X1)).setCell ⟨w.heap.size + 1, 7, none⟩ (.int .i64 X2)) _ _ _ := (jL.other ⟨w.heap.size + 1, 6, none⟩ (.int .i64 X1) (by first | (simp; done) | (simp; omega))).other ⟨w.heap.size + 1, 7, none⟩ (.int .i64 X2) (by first | (simp; done) | (simp; omega))
  have jD2 : Blk ((v1.setCell ⟨w.heap.size + 1, 6, none⟩ (.int .i64 X1)).setCell ⟨w.heap.size + 1, 7, none⟩ (.int .i64 X2)) _ _ _ := (jD.other ⟨w.heap.size + 1, 6, none⟩ (.int .i64 X1) (by first | (simp; done) | (simp; omega))).other ⟨w.heap.size + 1, 7, none⟩ (.int .i64 X2) (by first | (simp; done) | (simp; omega))
  have jR2 : Blk ((v1.setCell ⟨w.heap.size + 1, 6, none⟩ (.int .i64 X1)).setCell ⟨w.heap.size + 1, 7, none⟩ (.int .i64 X2)) _ _ _ := (jR.other ⟨w.heap.size + 1, 6, none⟩ (.int .i64 X1) (by first | (simp; done) | (simp; omega))).other ⟨w.heap.size + 1, 7, none⟩ (.int .i64 X2) (by first | (simp; done) | (simp; omega))
  have jB2 : Blk ((v1.setCell ⟨w.heap.size + 1, 6, none⟩ (.int .i64 X1)).setCell ⟨w.heap.size + 1, 7, none⟩ (.int .i64 X2)) (w.heap.size + 1) #[.int .i64 b0, .int .i64 b1, .int .i64 w0, .int .i64 w1, .int .i64 q0, .int .i64 q1, .int .i64 X1, .int .i64 X2] _ := (jB.set 6 (.int .i64 X1)).set 7 (.int .i64 X2)
  obtain ⟨a0, a1, a2, a3, a4, a5, a6, a7⟩ := jB2.c8
  obtain ⟨h0', h1', h2', h3', h4', h5'⟩ := jD2.c6
  obtain ⟨r0, r1, r2, r3, r4, r5, r6, r7⟩ := jR2.c8
  have g0 := jR2.free 0
  have g1 := jR2.free 1
  have g2 := jR2.free 2
  have g3 := jR2.free 3
  have g4 := jR2.free 4
  have g5 := jR2.free 5
  have g6 := jR2.free 6
  have g7 := jR2.free 7
  have hf := ((((((((jR2.set 0 (.int .i64 b0)).set 1 (.int .i64 b1)).set 2 (.int .i64 w0)).set 3 (.int .i64 w1)).set 4 (.int .i64 q0)).set 5 (.int .i64 q1)).set 6 (.int .i64 X1)).set 7 (.int .i64 X2))
  have HF := Lib.hid (Blk.c8 (x0 := .int .i64 b0) (x1 := .int .i64 b1) (x2 := .int .i64 w0) (x3 := .int .i64 w1) (x4 := .int .i64 q0) (x5 := .int .i64 q1) (x6 := .int .i64 X1) (x7 := .int .i64 X2) hf)
  clear hf
  go_wp2
  obtain ⟨z0, z1, z2, z3, z4, z5, z6, z7⟩ := HF.out
  refine bodyPost_ret (v := .agg #[.int .i64 b0, .int .i64 b1, .int .i64 w0, .int .i64 w1, .int .i64 q0, .int .i64 q1, .int .i64 X1, .int .i64 X2]) (by simp [results, Tryz.results75, go_sem, z0, z1, z2, z3, z4, z5, z6, z7]) rfl ⟨by rw [← HX1.out, ← HX2.out], ?_⟩
  iterate 8 refine Below.setCell ?_ (by simp; omega) _
  exact jW2

set_option maxRecDepth 100000 in
set_option maxHeartbeats 4000000 in
theorem cover_nw (gr la : Int) (va : Option Addr) (n cap : Nat) (m0 m1 so h0 h1 : Int) (b0 b1 w0 w1 q0 q1 s0 s1 e0 e1 f0 f1 wa : Int) (w : World) (hw : 0 < wa)
    (o1 : 0 ≤ so) (o2 : so ≤ 1000000) (y1 : 0 ≤ q0) (y2 : q0 ≤ 1000000000) (y3 : 0 ≤ q1) (y4 : q1 ≤ 1000000000) (i1 : 0 ≤ s0) (i2 : s0 ≤ 1000000000) (i3 : 0 ≤ s1) (i4 : s1 ≤ 1000000000)
    (j1 : 0 ≤ f0) (j2 : f0 ≤ 1000) (j3 : 0 ≤ f1) (j4 : f1 ≤ 1000) (k1 : wa ≤ 200) :
    Calls Tryz.prog 75 #[.agg #[.int .i64 gr, .int .i64 la, (.slice va n cap), .int .i64 m0, .int .i64 m1, .int .i64 so, .int .i64 h0, .int .i64 h1], .agg #[.int .i64 b0, .int .i64 b1, .int .i64 w0, .int .i64 w1, .int .i64 q0, .int .i64 q1, .int .i64 s0, .int .i64 s1], .agg #[.int .i64 e0, .int .i64 e1, .int .i64 f0, .int .i64 f1, .int .i64 wa, .bool false]] w
      fun e w' => e = .returned (.agg #[.int .i64 b0, .int .i64 b1, .int .i64 w0, .int .i64 w1, .int .i64 (q0 + wa + soakP (s0 + f0) so), .int .i64 (q1 + wa + soakP (s1 + f1) so), .int .i64 0, .int .i64 0]) ∧ Below w.heap.size w w' := by
  go_enter Tryz.func75, Tryz.ntmps75
  go_wp2_with fail
  obtain ⟨V, hV⟩ : ∃ V, (((w.alloc (.cells #[.int .i64 gr, .int .i64 la, .slice va n cap, .int .i64 m0, .int .i64 m1, .int .i64 so, .int .i64 h0, .int .i64 h1] 26)).alloc (.cells #[.int .i64 b0, .int .i64 b1, .int .i64 w0, .int .i64 w1, .int .i64 q0, .int .i64 q1, .int .i64 s0, .int .i64 s1] 105)).alloc (.cells #[.int .i64 e0, .int .i64 e1, .int .i64 f0, .int .i64 f1, .int .i64 wa, .bool false] 58)).alloc (.cells #[.int .i64 0, .int .i64 0, .int .i64 0, .int .i64 0, .int .i64 0, .int .i64 0, .int .i64 0, .int .i64 0] 105) = V := ⟨_, rfl⟩
  have jL := (((Blk.new w #[.int .i64 gr, .int .i64 la, .slice va n cap, .int .i64 m0, .int .i64 m1, .int .i64 so, .int .i64 h0, .int .i64 h1] 26).alloc (.cells #[.int .i64 b0, .int .i64 b1, .int .i64 w0, .int .i64 w1, .int .i64 q0, .int .i64 q1, .int .i64 s0, .int .i64 s1] 105)).alloc (.cells #[.int .i64 e0, .int .i64 e1, .int .i64 f0, .int .i64 f1, .int .i64 wa, .bool false] 58)).alloc (.cells #[.int .i64 0, .int .i64 0, .int .i64 0, .int .i64 0, .int .i64 0, .int .i64 0, .int .i64 0, .int .i64 0] 105)
  have jB := ((Blk.new1 w (.cells #[.int .i64 gr, .int .i64 la, .slice va n cap, .int .i64 m0, .int .i64 m1, .int .i64 so, .int .i64 h0, .int .i64 h1] 26) #[.int .i64 b0, .int .i64 b1, .int .i64 w0, .int .i64 w1, .int .i64 q0, .int .i64 q1, .int .i64 s0, .int .i64 s1] 105).alloc (.cells #[.int .i64 e0, .int .i64 e1, .int .i64 f0, .int .i64 f1, .int .i64 wa, .bool false] 58)).alloc (.cells #[.int .i64 0, .int .i64 0, .int .i64 0, .int .i64 0, .int .i64 0, .int .i64 0, .int .i64 0, .int .i64 0] 105)
  have jD := (Blk.new2 w (.cells #[.int .i64 gr, .int .i64 la, .slice va n cap, .int .i64 m0, .int .i64 m1, .int .i64 so, .int .i64 h0, .int .i64 h1] 26) (.cells #[.int .i64 b0, .int .i64 b1, .int .i64 w0, .int .i64 w1, .int .i64 q0, .int .i64 q1, .int .i64 s0, .int .i64 s1] 105) #[.int .i64 e0, .int .i64 e1, .int .i64 f0, .int .i64 f1, .int .i64 wa, .bool false] 58).alloc (.cells #[.int .i64 0, .int .i64 0, .int .i64 0, .int .i64 0, .int .i64 0, .int .i64 0, .int .i64 0, .int .i64 0] 105)
  have jR := Blk.new3 w (.cells #[.int .i64 gr, .int .i64 la, .slice va n cap, .int .i64 m0, .int .i64 m1, .int .i64 so, .int .i64 h0, .int .i64 h1] 26) (.cells #[.int .i64 b0, .int .i64 b1, .int .i64 w0, .int .i64 w1, .int .i64 q0, .int .i64 q1, .int .i64 s0, .int .i64 s1] 105) (.cells #[.int .i64 e0, .int .i64 e1, .int .i64 f0, .int .i64 f1, .int .i64 wa, .bool false] 58) #[.int .i64 0, .int .i64 0, .int .i64 0, .int .i64 0, .int .i64 0, .int .i64 0, .int .i64 0, .int .i64 0] 105
  have jW : Below w.heap.size w ((((w.alloc (.cells #[.int .i64 gr, .int .i64 la, .slice va n cap, .int .i64 m0, .int .i64 m1, .int .i64 so, .int .i64 h0, .int .i64 h1] 26)).alloc (.cells #[.int .i64 b0, .int .i64 b1, .int .i64 w0, .int .i64 w1, .int .i64 q0, .int .i64 q1, .int .i64 s0, .int .i64 s1] 105)).alloc (.cells #[.int .i64 e0, .int .i64 e1, .int .i64 f0, .int .i64 f1, .int .i64 wa, .bool false] 58)).alloc (.cells #[.int .i64 0, .int .i64 0, .int .i64 0, .int .i64 0, .int .i64 0, .int .i64 0, .int .i64 0, .int .i64 0] 105)) := by (repeat (first | exact Below.refl _ _ | assumption | refine Below.drew ?_ | refine Below.drewN ?_ _ | refine blT ?_ | refine blU ?_))
  rw [hV] at jL jB jD jR jW ⊢
  clear hV
  refine (ends_cov1 _ _ (s0 + f0) (s1 + f1) _
    (fun W hW => cov1_lo b0 b1 w0 w1 q0 q1 s0 s1 e0 e1 f0 f1 wa false _ _ W (jB.call hW) (jD.call hW) (by omega) (by omega) j1 j2)
    (fun W hW => cov1_hi b0 b1 w0 w1 q0 q1 s0 s1 e0 e1 f0 f1 wa false _ _ W (jB.call hW) (jD.call hW) (by omega) (by omega) j3 j4)).mono ?_
  rintro e v1 ⟨rfl, hb⟩
  replace jW := bwS jW (Nat.le_refl _) hb
  replace jL := jL.call hb
  replace jB := jB.call hb
  replace jD := jD.call hb
  replace jR := jR.call hb
  clear hb
  obtain ⟨X1, hX1⟩ : ∃ X, (s0 + f0) = X := ⟨_, rfl⟩
  obtain ⟨X2, hX2⟩ : ∃ X, (s1 + f1) = X := ⟨_, rfl⟩
  have t1 : 0 ≤ X1 := by omega
  have t2 : X1 ≤ 1000001000 := by omega
  have t3 : 0 ≤ X2 := by omega
  have t4 : X2 ≤ 1000001000 := by omega
  rw [hX1, hX2]
  have HX1 := Lib.hid hX1
  have HX2 := Lib.hid hX2
  clear hX1 hX2
  obtain ⟨c0, c1, c2, c3, c4, c5, c6, c7⟩ := jB.c8
  obtain ⟨d0, d1, d2, d3, d4, d5⟩ := jD.c6
  have fb4 := jB.free 4
  have fb5 := jB.free 5
  have fb6 := jB.free 6
  have fb7 := jB.free 7
  go_wp2_with fail
  clear c0 c1 c2 c3 c4 c5 c6 c7 d0 d1 d2 d3 d4 d5 fb4 fb5 fb6 fb7
  obtain ⟨V2, hV⟩ : ∃ V, (v1.setCell ⟨w.heap.size + 1, 6, none⟩ (.int .i64 X1)).setCell ⟨w.heap.size + 1, 7, none⟩ (.int .i64 X2) = V := ⟨_, rfl⟩
  have jW2 : Below w.heap.size w ((v1.setCell ⟨w.heap.size + 1, 6, none⟩ (.int .i64 X1)).setCell ⟨w.heap.size + 1, 7, none⟩ (.int .i64 X2)) := (jW.setCell (by simp) _).setCell (by simp) _
  have jL2 : Blk ((v1.setCell ⟨w.heap.size + 1, 6, none⟩ (.int .i64 X1)).setCell ⟨w.heap.size + 1, 7, none⟩ (.int .i64 X2)) _ _ _ := (jL.other ⟨w.heap.size + 1, 6, none⟩ (.int .i64 X1) (by first | (simp; done) | (simp; omega))).other ⟨w.heap.size + 1, 7, none⟩ (.int .i64 X2) (by first | (simp; done) | (simp; omega))
  have jD2 : Blk ((v1.setCell ⟨w.heap.size + 1, 6, none⟩ (.int .i64 X1)).setCell ⟨w.heap.size + 1, 7, none⟩ (.int .i64 X2)) _ _ _ := (jD.other ⟨w.heap.size + 1, 6, none⟩ (.int .i64 X1) (by first | (simp; done) | (simp; omega))).other ⟨w.heap.size + 1, 7, none⟩ (.int .i64 X2) (by first | (simp; done) | (simp; omega))
  have jR2 : Blk ((v1.setCell ⟨w.heap.size + 1, 6, none⟩ (.int .i64 X1)).setCell ⟨w.heap.size + 1, 7, none⟩ (.int .i64 X2)) _ _ _ := (jR.other ⟨w.heap.size + 1, 6, none⟩ (.int .i64 X1) (by first | (simp; done) | (simp; omega))).other ⟨w.heap.size + 1, 7, none⟩ (.int .i64 X2) (by first | (simp; done) | (simp; omega))
  have jB2 : Blk ((v1.setCell ⟨w.heap.size + 1, 6, none⟩ (.int .i64 X1)).setCell ⟨w.heap.size + 1, 7, none⟩ (.int .i64 X2)) (w.heap.size + 1) #[.int .i64 b0, .int .i64 b1, .int .i64 w0, .int .i64 w1, .int .i64 q0, .int .i64 q1, .int .i64 X1, .int .i64 X2] _ := (jB.set 6 (.int .i64 X1)).set 7 (.int .i64 X2)
  rw [hV] at jL2 jB2 jD2 jR2 jW2 ⊢
  clear hV jL jB jD jR jW
  refine (ends_cov2 _ _ _ (q0 + wa + soakP X1 so) (q1 + wa + soakP X2 so) _
    (fun W hW => cov2_lo gr la va n cap m0 m1 so h0 h1 b0 b1 w0 w1 q0 q1 X1 X2 e0 e1 f0 f1 wa false _ _ _ W (jB2.call hW) (jD2.call hW) (jL2.call hW) t1 t2 y1 y2 (by omega) k1 o1 o2)
    (fun W hW => cov2_hi gr la va n cap m0 m1 so h0 h1 b0 b1 w0 w1 q0 q1 X1 X2 e0 e1 f0 f1 wa false _ _ _ W (jB2.call hW) (jD2.call hW) (jL2.call hW) t3 t4 y3 y4 (by omega) k1 o1 o2)).mono ?_
  rintro e v2 ⟨rfl, hb⟩
  replace jW2 := bwS jW2 (Nat.le_refl _) hb
  replace jB2 := jB2.call hb
  replace jR2 := jR2.call hb
  clear hb jL2 jD2
  obtain ⟨X3, hX3⟩ : ∃ X, q0 + wa + soakP X1 so = X := ⟨_, rfl⟩
  obtain ⟨X4, hX4⟩ : ∃ X, q1 + wa + soakP X2 so = X := ⟨_, rfl⟩
  rw [hX3, hX4]
  have HX3 := Lib.hid hX3
  have HX4 := Lib.hid hX4
  clear hX3 hX4
  obtain ⟨c0, c1, c2, c3, c4, c5, c6, c7⟩ := jB2.c8
  have fb4 := jB2.free 4
  have fb5 := jB2.free 5
  have fb6 := jB2.free 6
  have fb7 := jB2.free 7
  replace jW2 : Below w.heap.size w ((((v2.setCell ⟨w.heap.size + 1, 4, none⟩ (.int .i64 X3)).setCell ⟨w.heap.size + 1, 5, none⟩ (.int .i64 X4)).setCell ⟨w.heap.size + 1, 6, none⟩ (.int .i64 0)).setCell ⟨w.heap.size + 1, 7, none⟩ (.int .i64 0)) := (((jW2.setCell (by simp) _).setCell (by simp) _).setCell (by simp) _).setCell (by simp) _
  replace jR2 : Blk ((((v2.setCell ⟨w.heap.size + 1, 4, none⟩ (.int .i64 X3)).setCell ⟨w.heap.size + 1, 5, none⟩ (.int .i64 X4)).setCell ⟨w.heap.size + 1, 6, none⟩ (.int .i64 0)).setCell ⟨w.heap.size + 1, 7, none⟩ (.int .i64 0)) _ _ _ := (((jR2.other ⟨w.heap.size + 1, 4, none⟩ (.int .i64 X3) (by first | (simp; done) | (simp; omega))).other ⟨w.heap.size + 1, 5, none⟩ (.int .i64 X4) (by first | (simp; done) | (simp; omega))).other ⟨w.heap.size + 1, 6, none⟩ (.int .i64 0) (by first | (simp; done) | (simp; omega))).other ⟨w.heap.size + 1, 7, none⟩ (.int .i64 0) (by first | (simp; done) | (simp; omega))
  have jB3 : Blk ((((v2.setCell ⟨w.heap.size + 1, 4, none⟩ (.int .i64 X3)).setCell ⟨w.heap.size + 1, 5, none⟩ (.int .i64 X4)).setCell ⟨w.heap.size + 1, 6, none⟩ (.int .i64 0)).setCell ⟨w.heap.size + 1, 7, none⟩ (.int .i64 0)) (w.heap.size + 1) #[.int .i64 b0, .int .i64 b1, .int .i64 w0, .int .i64 w1, .int .i64 X3, .int .i64 X4, .int .i64 0, .int .i64 0] _ := (((jB2.set 4 (.int .i64 X3)).set 5 (.int .i64 X4)).set 6 (.int .i64 0)).set 7 (.int .i64 0)
  obtain ⟨a0, a1, a2, a3, a4, a5, a6, a7⟩ := jB3.c8
  obtain ⟨r0, r1, r2, r3, r4, r5, r6, r7⟩ := jR2.c8
  have g0 := jR2.free 0
  have g1 := jR2.free 1
  have g2 := jR2.free 2
  have g3 := jR2.free 3
  have g4 := jR2.free 4
  have g5 := jR2.free 5
  have g6 := jR2.free 6
  have g7 := jR2.free 7
  have hf := ((((((((jR2.set 0 (.int .i64 b0)).set 1 (.int .i64 b1)).set 2 (.int .i64 w0)).set 3 (.int .i64 w1)).set 4 (.int .i64 X3)).set 5 (.int .i64 X4)).set 6 (.int .i64 0)).set 7 (.int .i64 0))
  have HF := Lib.hid (Blk.c8 (x0 := .int .i64 b0) (x1 := .int .i64 b1) (x2 := .int .i64 w0) (x3 := .int .i64 w1) (x4 := .int .i64 X3) (x5 := .int .i64 X4) (x6 := .int .i64 0) (x7 := .int .i64 0) hf)
  clear hf
  go_wp2
  obtain ⟨z0, z1, z2, z3, z4, z5, z6, z7⟩ := HF.out
  refine bodyPost_ret (v := .agg #[.int .i64 b0, .int .i64 b1, .int .i64 w0, .int .i64 w1, .int .i64 X3, .int .i64 X4, .int .i64 0, .int .i64 0]) (by simp [results, Tryz.results75, go_sem, z0, z1, z2, z3, z4, z5, z6, z7]) rfl ⟨by rw [← HX3.out, ← HX4.out, ← HX1.out, ← HX2.out], ?_⟩
  iterate 8 refine Below.setCell ?_ (by simp; omega) _
  exact jW2

set_option maxRecDepth 100000 in
set_option maxHeartbeats 4000000 in
theorem cover_nd (gr la : Int) (va : Option Addr) (n cap : Nat) (m0 m1 so h0 h1 : Int) (b0 b1 w0 w1 q0 q1 s0 s1 e0 e1 f0 f1 wa : Int) (w : World) (hw : ¬ 0 < wa)
    (o1 : 0 ≤ so) (o2 : so ≤ 1000000) (y1 : 0 ≤ q0) (y2 : q0 ≤ 1000000000) (y3 : 0 ≤ q1) (y4 : q1 ≤ 1000000000) (i1 : 0 ≤ s0) (i2 : s0 ≤ 1000000000) (i3 : 0 ≤ s1) (i4 : s1 ≤ 1000000000)
    (j1 : 0 ≤ f0) (j2 : f0 ≤ 1000) (j3 : 0 ≤ f1) (j4 : f1 ≤ 1000) (k1 : wa ≤ 200) :
    Calls Tryz.prog 75 #[.agg #[.int .i64 gr, .int .i64 la, (.slice va n cap), .int .i64 m0, .int .i64 m1, .int .i64 so, .int .i64 h0, .int .i64 h1], .agg #[.int .i64 b0, .int .i64 b1, .int .i64 w0, .int .i64 w1, .int .i64 q0, .int .i64 q1, .int .i64 s0, .int .i64 s1], .agg #[.int .i64 e0, .int .i64 e1, .int .i64 f0, .int .i64 f1, .int .i64 wa, .bool false]] w
      fun e w' => e = .returned (.agg #[.int .i64 b0, .int .i64 b1, .int .i64 w0, .int .i64 w1, .int .i64 q0, .int .i64 q1, .int .i64 (s0 + f0), .int .i64 (s1 + f1)]) ∧ Below w.heap.size w w' := by
  go_enter Tryz.func75, Tryz.ntmps75
  go_wp2_with fail
  obtain ⟨V, hV⟩ : ∃ V, (((w.alloc (.cells #[.int .i64 gr, .int .i64 la, .slice va n cap, .int .i64 m0, .int .i64 m1, .int .i64 so, .int .i64 h0, .int .i64 h1] 26)).alloc (.cells #[.int .i64 b0, .int .i64 b1, .int .i64 w0, .int .i64 w1, .int .i64 q0, .int .i64 q1, .int .i64 s0, .int .i64 s1] 105)).alloc (.cells #[.int .i64 e0, .int .i64 e1, .int .i64 f0, .int .i64 f1, .int .i64 wa, .bool false] 58)).alloc (.cells #[.int .i64 0, .int .i64 0, .int .i64 0, .int .i64 0, .int .i64 0, .int .i64 0, .int .i64 0, .int .i64 0] 105) = V := ⟨_, rfl⟩
  have jL := (((Blk.new w #[.int .i64 gr, .int .i64 la, .slice va n cap, .int .i64 m0, .int .i64 m1, .int .i64 so, .int .i64 h0, .int .i64 h1] 26).alloc (.cells #[.int .i64 b0, .int .i64 b1, .int .i64 w0, .int .i64 w1, .int .i64 q0, .int .i64 q1, .int .i64 s0, .int .i64 s1] 105)).alloc (.cells #[.int .i64 e0, .int .i64 e1, .int .i64 f0, .int .i64 f1, .int .i64 wa, .bool false] 58)).alloc (.cells #[.int .i64 0, .int .i64 0, .int .i64 0, .int .i64 0, .int .i64 0, .int .i64 0, .int .i64 0, .int .i64 0] 105)
  have jB := ((Blk.new1 w (.cells #[.int .i64 gr, .int .i64 la, .slice va n cap, .int .i64 m0, .int .i64 m1, .int .i64 so, .int .i64 h0, .int .i64 h1] 26) #[.int .i64 b0, .int .i64 b1, .int .i64 w0, .int .i64 w1, .int .i64 q0, .int .i64 q1, .int .i64 s0, .int .i64 s1] 105).alloc (.cells #[.int .i64 e0, .int .i64 e1, .int .i64 f0, .int .i64 f1, .int .i64 wa, .bool false] 58)).alloc (.cells #[.int .i64 0, .int .i64 0, .int .i64 0, .int .i64 0, .int .i64 0, .int .i64 0, .int .i64 0, .int .i64 0] 105)
  have jD := (Blk.new2 w (.cells #[.int .i64 gr, .int .i64 la, .slice va n cap, .int .i64 m0, .int .i64 m1, .int .i64 so, .int .i64 h0, .int .i64 h1] 26) (.cells #[.int .i64 b0, .int .i64 b1, .int .i64 w0, .int .i64 w1, .int .i64 q0, .int .i64 q1, .int .i64 s0, .int .i64 s1] 105) #[.int .i64 e0, .int .i64 e1, .int .i64 f0, .int .i64 f1, .int .i64 wa, .bool false] 58).alloc (.cells #[.int .i64 0, .int .i64 0, .int .i64 0, .int .i64 0, .int .i64 0, .int .i64 0, .int .i64 0, .int .i64 0] 105)
  have jR := Blk.new3 w (.cells #[.int .i64 gr, .int .i64 la, .slice va n cap, .int .i64 m0, .int .i64 m1, .int .i64 so, .int .i64 h0, .int .i64 h1] 26) (.cells #[.int .i64 b0, .int .i64 b1, .int .i64 w0, .int .i64 w1, .int .i64 q0, .int .i64 q1, .int .i64 s0, .int .i64 s1] 105) (.cells #[.int .i64 e0, .int .i64 e1, .int .i64 f0, .int .i64 f1, .int .i64 wa, .bool false] 58) #[.int .i64 0, .int .i64 0, .int .i64 0, .int .i64 0, .int .i64 0, .int .i64 0, .int .i64 0, .int .i64 0] 105
  have jW : Below w.heap.size w ((((w.alloc (.cells #[.int .i64 gr, .int .i64 la, .slice va n cap, .int .i64 m0, .int .i64 m1, .int .i64 so, .int .i64 h0, .int .i64 h1] 26)).alloc (.cells #[.int .i64 b0, .int .i64 b1, .int .i64 w0, .int .i64 w1, .int .i64 q0, .int .i64 q1, .int .i64 s0, .int .i64 s1] 105)).alloc (.cells #[.int .i64 e0, .int .i64 e1, .int .i64 f0, .int .i64 f1, .int .i64 wa, .bool false] 58)).alloc (.cells #[.int .i64 0, .int .i64 0, .int .i64 0, .int .i64 0, .int .i64 0, .int .i64 0, .int .i64 0, .int .i64 0] 105)) := by (repeat (first | exact Below.refl _ _ | assumption | refine Below.drew ?_ | refine Below.drewN ?_ _ | refine blT ?_ | refine blU ?_))
  rw [hV] at jL jB jD jR jW ⊢
  clear hV
  refine (ends_cov1 _ _ (s0 + f0) (s1 + f1) _
    (fun W hW => cov1_lo b0 b1 w0 w1 q0 q1 s0 s1 e0 e1 f0 f1 wa false _ _ W (jB.call hW) (jD.call hW) (by omega) (by omega) j1 j2)
    (fun W hW => cov1_hi b0 b1 w0 w1 q0 q1 s0 s1 e0 e1 f0 f1 wa false _ _ W (jB.call hW) (jD.call hW) (by omega) (by omega) j3 j4)).mono ?_
  rintro e v1 ⟨rfl, hb⟩
  replace jW := bwS jW (Nat.le_refl _) hb
  replace jL := jL.call hb
  replace jB := jB.call hb
  replace jD := jD.call hb
  replace jR := jR.call hb
  clear hb
  obtain ⟨X1, hX1⟩ : ∃ X, (s0 + f0) = X := ⟨_, rfl⟩
  obtain ⟨X2, hX2⟩ : ∃ X, (s1 + f1) = X := ⟨_, rfl⟩
  have t1 : 0 ≤ X1 := by omega
  have t2 : X1 ≤ 1000001000 := by omega
  have t3 : 0 ≤ X2 := by omega
  have t4 : X2 ≤ 1000001000 := by omega
  rw [hX1, hX2]
  have HX1 := Lib.hid hX1
  have HX2 := Lib.hid hX2
  clear hX1 hX2
  obtain ⟨c0, c1, c2, c3, c4, c5, c6, c7⟩ := jB.c8
  obtain ⟨d0, d1, d2, d3, d4, d5⟩ := jD.c6
  have fb4 := jB.free 4
  have fb5 := jB.free 5
  have fb6 := jB.free 6
  have fb7 := jB.free 7
  have jW2 : Below w.heap.size w ((v1.setCell ⟨w.heap.size + 1, 6, none⟩ (.int .i64 X1)).setCell ⟨w.heap.size + 1, 7, none⟩ (.int .i64 X2)) := (jW.setCell (by simp) _).setCell (by simp) _
  have jL2 : Blk ((v1.setCell ⟨w.heap.size + 1, 6, none⟩ (.int .i64 X1)).setCell ⟨w.heap.size + 1, 7, none⟩ (.int .i64 X2)) _ _ _ := (jL.other ⟨w.heap.size + 1, 6, none⟩ (.int .i64 X1) (by first | (simp; done) | (simp; omega))).other ⟨w.heap.size + 1, 7, none⟩ (.int .i64 X2) (by first | (simp; done) | (simp; omega))
  have jD2 : Blk ((v1.setCell ⟨w.heap.size + 1, 6, none⟩ (.int .i64 X1)).setCell ⟨w.heap.size + 1, 7, none⟩ (.int .i64 X2)) _ _ _ := (jD.other ⟨w.heap.size + 1, 6, none⟩ (.int .i64 X1) (by first | (simp; done) | (simp; omega))).other ⟨w.heap.size + 1, 7, none⟩ (.int .i64 X2) (by first | (simp; done) | (simp; omega))
  have jR2 : Blk ((v1.setCell ⟨w.heap.size + 1, 6, none⟩ (.int .i64 X1)).setCell ⟨w.heap.size + 1, 7, none⟩ (.int .i64 X2)) _ _ _ := (jR.other ⟨w.heap.size + 1, 6, none⟩ (.int .i64 X1) (by first | (simp; done) | (simp; omega))).other ⟨w.heap.size + 1, 7, none⟩ (.int .i64 X2) (by first | (simp; done) | (simp; omega))
  have jB2 : Blk ((v1.setCell ⟨w.heap.size + 1, 6, none⟩ (.int .i64 X1)).setCell ⟨w.heap.size + 1, 7, none⟩ (.int .i64 X2)) (w.heap.size + 1) #[.int .i64 b0, .int .i64 b1, .int .i64 w0, .int .i64 w1, .int .i64 q0, .int .i64 q1, .int .i64 X1, .int .i64 X2] _ := (jB.set 6 (.int .i64 X1)).set 7 (.int .i64 X2)
  obtain ⟨a0, a1, a2, a3, a4, a5, a6, a7⟩ := jB2.c8
  obtain ⟨h0', h1', h2', h3', h4', h5'⟩ := jD2.c6
  obtain ⟨r0, r1, r2, r3, r4, r5, r6, r7⟩ := jR2.c8
  have g0 := jR2.free 0
  have g1 := jR2.free 1
  have g2 := jR2.free 2
  have g3 := jR2.free 3
  have g4 := jR2.free 4
  have g5 := jR2.free 5
  have g6 := jR2.free 6
  have g7 := jR2.free 7
  have hf := ((((((((jR2.set 0 (.int .i64 b0)).set 1 (.int .i64 b1)).set 2 (.int .i64 w0)).set 3 (.int .i64 w1)).set 4 (.int .i64 q0)).set 5 (.int .i64 q1)).set 6 (.int .i64 X1)).set 7 (.int .i64 X2))
  have HF := Lib.hid (Blk.c8 (x0 := .int .i64 b0) (x1 := .int .i64 b1) (x2 := .int .i64 w0) (x3 := .int .i64 w1) (x4 := .int .i64 q0) (x5 := .int .i64 q1) (x6 := .int .i64 X1) (x7 := .int .i64 X2) hf)
  clear hf
  go_wp2
  obtain ⟨z0, z1, z2, z3, z4, z5, z6, z7⟩ := HF.out
  refine bodyPost_ret (v := .agg #[.int .i64 b0, .int .i64 b1, .int .i64 w0, .int .i64 w1, .int .i64 q0, .int .i64 q1, .int .i64 X1, .int .i64 X2]) (by simp [results, Tryz.results75, go_sem, z0, z1, z2, z3, z4, z5, z6, z7]) rfl ⟨by rw [← HX1.out, ← HX2.out], ?_⟩
  iterate 8 refine Below.setCell ?_ (by simp; omega) _
  exact jW2

theorem fcover_any (gr la : Int) (v : Value) (m0 m1 so h0 h1 : Int) (b0 b1 w0 w1 q0 q1 s0 s1 e0 e1 f0 f1 wa : Int) (cl : Bool) (w : World) (hv : ∃ a n cap, v = .slice a n cap)
    (o1 : 0 ≤ so) (o2 : so ≤ 1000000) (y1 : 0 ≤ q0) (y2 : q0 ≤ 1000000000) (y3 : 0 ≤ q1) (y4 : q1 ≤ 1000000000) (i1 : 0 ≤ s0) (i2 : s0 ≤ 1000000000) (i3 : 0 ≤ s1) (i4 : s1 ≤ 1000000000)
    (j1 : 0 ≤ f0) (j2 : f0 ≤ 1000) (j3 : 0 ≤ f1) (j4 : f1 ≤ 1000) (k1 : wa ≤ 200) :
    Calls Tryz.prog 75 #[.agg #[.int .i64 gr, .int .i64 la, v, .int .i64 m0, .int .i64 m1, .int .i64 so, .int .i64 h0, .int .i64 h1], .agg #[.int .i64 b0, .int .i64 b1, .int .i64 w0, .int .i64 w1, .int .i64 q0, .int .i64 q1, .int .i64 s0, .int .i64 s1], .agg #[.int .i64 e0, .int .i64 e1, .int .i64 f0, .int .i64 f1, .int .i64 wa, .bool cl]] w
      fun e w' => e = .returned (.agg #[.int .i64 b0, .int .i64 b1, .int .i64 w0, .int .i64 w1, .int .i64 (wetP wa q0 (snowP cl s0 f0) so), .int .i64 (wetP wa q1 (snowP cl s1 f1) so), .int .i64 (leftP wa (snowP cl s0 f0)), .int .i64 (leftP wa (snowP cl s1 f1))]) ∧ Below w.heap.size w w' := by
  obtain ⟨a, n, cap, rfl⟩ := hv
  unfold snowP wetP leftP
  by_cases hw : 0 < wa
  · simp only [if_pos hw]
    cases cl
    · exact cover_nw gr la a n cap m0 m1 so h0 h1 b0 b1 w0 w1 q0 q1 s0 s1 e0 e1 f0 f1 wa w hw o1 o2 y1 y2 y3 y4 i1 i2 i3 i4 j1 j2 j3 j4 k1
    · exact cover_cw gr la a n cap m0 m1 so h0 h1 b0 b1 w0 w1 q0 q1 s0 s1 e0 e1 f0 f1 wa w hw o1 o2 y1 y2 y3 y4 i1 i2 i3 i4 j1 j2 j3 j4 k1
  · simp only [if_neg hw]
    cases cl
    · exact cover_nd gr la a n cap m0 m1 so h0 h1 b0 b1 w0 w1 q0 q1 s0 s1 e0 e1 f0 f1 wa w hw o1 o2 y1 y2 y3 y4 i1 i2 i3 i4 j1 j2 j3 j4 k1
    · exact cover_cd gr la a n cap m0 m1 so h0 h1 b0 b1 w0 w1 q0 q1 s0 s1 e0 e1 f0 f1 wa w hw o1 o2 y1 y2 y3 y4 i1 i2 i3 i4 j1 j2 j3 j4 k1
end Go.Proofs.YtdbiijldincoiaaGreat

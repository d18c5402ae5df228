/-
  The reference's Core.
-/
import Derived.Test.YtkldjaofgdklbaaTail
import Derived.Test.YtkldjaofgdklbaaRef1
import Derived.Test.YtkldjaofgdklbaaCore
import Derived.Test.YtkldjaofgdklbaaShare
set_option linter.unusedVariables false
set_option linter.unusedSimpArgs false
namespace Go.Proofs.Ytkldjaofgdklbaa
open Go.RowKit

theorem common_any (a b c d : Int) (w : World) :
    Calls Try.prog 73 #[.agg #[.int .i64 a, .int .i64 b], .agg #[.int .i64 c, .int .i64 d]] w fun e w' => e = .returned (.agg #[.int .i64 (max a c), .int .i64 (min b d)]) ∧ Below w.heap.size w w' := by
  go_enter Try.func73, Try.ntmps73
  go_wp2
  refine bodyPost_ret (v := .agg #[.int .i64 (max a c), .int .i64 (min b d)]) (by simp [results, Try.results73, go_sem]) rfl ⟨rfl, by (repeat (first | exact Below.refl _ _ | assumption | refine Below.drew ?_ | refine Below.drewN ?_ _ | refine blT ?_ | refine blU ?_))⟩

set_option maxRecDepth 100000 in
set_option maxHeartbeats 8000000 in
theorem rcore_any (x c : Ic) (w : World) :
    Calls Try.prog 28 #[.agg #[.int .i64 x.b0, .int .i64 x.b1, .int .i64 x.w0, .int .i64 x.w1, .int .i64 x.q0, .int .i64 x.q1, .int .i64 x.s0, .int .i64 x.s1], .agg #[.int .i64 c.b0, .int .i64 c.b1, .int .i64 c.w0, .int .i64 c.w1, .int .i64 c.q0, .int .i64 c.q1, .int .i64 c.s0, .int .i64 c.s1]] w fun e w' => e = .returned (.tuple #[coV x c, .int .i64 (coE x c)]) ∧ Below w.heap.size w w' := by
  have HX : Hid (∀ W, Calls Try.prog 22 #[.agg #[.int .i64 x.b0, .int .i64 x.b1, .int .i64 x.w0, .int .i64 x.w1, .int .i64 x.q0, .int .i64 x.q1, .int .i64 x.s0, .int .i64 x.s1]] W fun e w' => e = .returned (.int .i64 x.e) ∧ Below W.heap.size W w') := fun W => rice_any x W
  have HC : Hid (∀ W, Calls Try.prog 22 #[.agg #[.int .i64 c.b0, .int .i64 c.b1, .int .i64 c.w0, .int .i64 c.w1, .int .i64 c.q0, .int .i64 c.q1, .int .i64 c.s0, .int .i64 c.s1]] W fun e w' => e = .returned (.int .i64 c.e) ∧ Below W.heap.size W w') := fun W => rice_any c W
  have jX := (Blk.new w #[.int .i64 x.b0, .int .i64 x.b1, .int .i64 x.w0, .int .i64 x.w1, .int .i64 x.q0, .int .i64 x.q1, .int .i64 x.s0, .int .i64 x.s1] 28).alloc (.cells #[.int .i64 c.b0, .int .i64 c.b1, .int .i64 c.w0, .int .i64 c.w1, .int .i64 c.q0, .int .i64 c.q1, .int .i64 c.s0, .int .i64 c.s1] 28) |>.alloc (.cells #[.int .i64 0, .int .i64 0, .int .i64 0, .int .i64 0, .int .i64 0, .int .i64 0, .int .i64 0, .int .i64 0] 28)
  have jC := (Blk.new1 w (.cells #[.int .i64 x.b0, .int .i64 x.b1, .int .i64 x.w0, .int .i64 x.w1, .int .i64 x.q0, .int .i64 x.q1, .int .i64 x.s0, .int .i64 x.s1] 28) #[.int .i64 c.b0, .int .i64 c.b1, .int .i64 c.w0, .int .i64 c.w1, .int .i64 c.q0, .int .i64 c.q1, .int .i64 c.s0, .int .i64 c.s1] 28).alloc (.cells #[.int .i64 0, .int .i64 0, .int .i64 0, .int .i64 0, .int .i64 0, .int .i64 0, .int .i64 0, .int .i64 0] 28)
  have jR := Blk.new2 w (.cells #[.int .i64 x.b0, .int .i64 x.b1, .int .i64 x.w0, .int .i64 x.w1, .int .i64 x.q0, .int .i64 x.q1, .int .i64 x.s0, .int .i64 x.s1] 28) (.cells #[.int .i64 c.b0, .int .i64 c.b1, .int .i64 c.w0, .int .i64 c.w1, .int .i64 c.q0, .int .i64 c.q1, .int .i64 c.s0, .int .i64 c.s1] 28) #[.int .i64 0, .int .i64 0, .int .i64 0, .int .i64 0, .int .i64 0, .int .i64 0, .int .i64 0, .int .i64 0] 28
  have jB : Below w.heap.size w (((w.alloc (.cells #[.int .i64 x.b0, .int .i64 x.b1, .int .i64 x.w0, .int .i64 x.w1, .int .i64 x.q0, .int .i64 x.q1, .int .i64 x.s0, .int .i64 x.s1] 28)).alloc (.cells #[.int .i64 c.b0, .int .i64 c.b1, .int .i64 c.w0, .int .i64 c.w1, .int .i64 c.q0, .int .i64 c.q1, .int .i64 c.s0, .int .i64 c.s1] 28)).alloc (.cells #[.int .i64 0, .int .i64 0, .int .i64 0, .int .i64 0, .int .i64 0, .int .i64 0, .int .i64 0, .int .i64 0] 28)) := by (repeat (first | exact Below.refl _ _ | assumption | refine Below.drew ?_ | refine Below.drewN ?_ _ | refine blT ?_ | refine blU ?_))
  generalize hE : x.e = E at HX
  generalize hG : c.e = G at HC
  have HE := Lib.hid (And.intro hE hG)
  clear hE hG
  go_enter Try.func28, Try.ntmps28
  go_wp2_with fail
  refine (HX.out _).mono ?_
  rintro e w1 ⟨rfl, hb⟩
  replace jX := jX.call hb
  replace jC := jC.call hb
  replace jR := jR.call hb
  replace jB := bwS jB (Nat.le_refl _) hb
  clear hb HX
  by_cases h0 : E = 0
  case neg =>
    have e1 : orE x.e c.e = E := by rw [HE.out.1]; simp [orE, h0]
    have HP := Lib.hid (co_bad (x := x) (c := c) (by rw [e1]; exact h0))
    rw [e1] at HP
    have h1 : (E != 0) = true := by simpa using h0
    clear e1 h0 jX jC
    obtain ⟨r0, r1, r2, r3, r4, r5, r6, r7⟩ := jR.c8
    have f0 := jR.free 0
    have f1 := jR.free 1
    have f2 := jR.free 2
    have f3 := jR.free 3
    have f4 := jR.free 4
    have f5 := jR.free 5
    have f6 := jR.free 6
    have f7 := jR.free 7
    have zR := jR.lt
    have HQ := Lib.hid (jR.set8 (.int .i64 0) (.int .i64 0) (.int .i64 0) (.int .i64 0) (.int .i64 0) (.int .i64 0) (.int .i64 0) (.int .i64 0)).c8
    go_wp2
    obtain ⟨z0, z1, z2, z3, z4, z5, z6, z7⟩ := HQ.out
    refine bodyPost_ret (v := .tuple #[.agg #[.int .i64 0, .int .i64 0, .int .i64 0, .int .i64 0, .int .i64 0, .int .i64 0, .int .i64 0, .int .i64 0], .int .i64 E]) (by simp [results, Try.results28, go_sem, z0, z1, z2, z3, z4, z5, z6, z7]) rfl ⟨by rw [HP.out.1, HP.out.2], ?_⟩
    iterate 8 refine Below.setCell ?_ (by simp; omega) _
    exact jB
  subst h0
  obtain ⟨a0, a1, a2, a3, a4, a5, a6, a7⟩ := jC.c8
  have zC := jC.lt
  go_wp2_with fail
  refine (HC.out _).mono ?_
  rintro e w2 ⟨rfl, hb⟩
  clear a0 a1 a2 a3 a4 a5 a6 a7 zC
  replace jX := jX.call hb
  replace jC := jC.call hb
  replace jR := jR.call hb
  replace jB := bwS jB (Nat.le_refl _) hb
  clear hb HC
  by_cases h0 : G = 0
  case neg =>
    have e1 : orE x.e c.e = G := by rw [HE.out.1, HE.out.2]; simp [orE]
    have HP := Lib.hid (co_bad (x := x) (c := c) (by rw [e1]; exact h0))
    rw [e1] at HP
    have h1 : (G != 0) = true := by simpa using h0
    clear e1 h0 jX jC
    obtain ⟨r0, r1, r2, r3, r4, r5, r6, r7⟩ := jR.c8
    have f0 := jR.free 0
    have f1 := jR.free 1
    have f2 := jR.free 2
    have f3 := jR.free 3
    have f4 := jR.free 4
    have f5 := jR.free 5
    have f6 := jR.free 6
    have f7 := jR.free 7
    have zR := jR.lt
    have HQ := Lib.hid (jR.set8 (.int .i64 0) (.int .i64 0) (.int .i64 0) (.int .i64 0) (.int .i64 0) (.int .i64 0) (.int .i64 0) (.int .i64 0)).c8
    go_wp2
    obtain ⟨z0, z1, z2, z3, z4, z5, z6, z7⟩ := HQ.out
    refine bodyPost_ret (v := .tuple #[.agg #[.int .i64 0, .int .i64 0, .int .i64 0, .int .i64 0, .int .i64 0, .int .i64 0, .int .i64 0, .int .i64 0], .int .i64 G]) (by simp [results, Try.results28, go_sem, z0, z1, z2, z3, z4, z5, z6, z7]) rfl ⟨by rw [HP.out.1, HP.out.2], ?_⟩
    iterate 8 refine Below.setCell ?_ (by simp; omega) _
    exact jB
  subst h0
  have h00 := Lib.hid (show orE x.e c.e = 0 by rw [HE.out.1, HE.out.2]; rfl)
  clear HE
  go_upto_region 7 with fail
  go_cut [8] (fun s8 wx => ∃ bY : Nat, s8 = .pointer (some ⟨bY, 0, none⟩) ∧ Blk wx bY #[.int .i64 (max x.b0 c.b0), .int .i64 (min x.b1 c.b1), .int .i64 (max x.w0 c.w0), .int .i64 (min x.w1 c.w1), .int .i64 (max x.q0 c.q0), .int .i64 (min x.q1 c.q1), .int .i64 (max x.s0 c.s0), .int .i64 (min x.s1 c.s1)] 28 ∧ Blk wx (w.heap.size + 1 + 1) #[.int .i64 0, .int .i64 0, .int .i64 0, .int .i64 0, .int .i64 0, .int .i64 0, .int .i64 0, .int .i64 0] 28 ∧ w.heap.size + 1 + 1 < bY ∧ Below w.heap.size w wx)
  case first =>
    (
 let S9 : World → Prop := (fun w' => Blk w' w.heap.size #[.int .i64 x.b0, .int .i64 x.b1, .int .i64 x.w0, .int .i64 x.w1, .int .i64 x.q0, .int .i64 x.q1, .int .i64 x.s0, .int .i64 x.s1] 28 ∧ Blk w' (w.heap.size + 1) #[.int .i64 c.b0, .int .i64 c.b1, .int .i64 c.w0, .int .i64 c.w1, .int .i64 c.q0, .int .i64 c.q1, .int .i64 c.s0, .int .i64 c.s1] 28 ∧ Blk w' (w.heap.size + 1 + 1) #[.int .i64 0, .int .i64 0, .int .i64 0, .int .i64 0, .int .i64 0, .int .i64 0, .int .i64 0, .int .i64 0] 28 ∧ Below w.heap.size w w')
 refine wp_region_held_drew (S := S9) (by kernel_rfl) ?_ (fun hH => ?_)
 · (try dsimp only); (exact ⟨jX.drew, jC.drew, jR.drew, jB.drew⟩)
 apply share0 (fun (bA : Nat) (W : World) => S9 W ∧ Blk W bA #[.int .i64 0, .int .i64 0, .int .i64 0, .int .i64 0, .int .i64 0, .int .i64 0, .int .i64 0, .int .i64 0] 28 ∧ (w.heap.size + 1 + 1 < bA))
 {
 intro X4
 apply share0 (fun (bA : Nat) (W : World) => S9 W ∧ Blk W bA #[.int .i64 0, .int .i64 0, .int .i64 0, .int .i64 0, .int .i64 0, .int .i64 0, .int .i64 0, .int .i64 0] 28 ∧ (w.heap.size + 1 + 1 < bA))
 {
 intro X3
 apply share0 (fun (bA : Nat) (W : World) => S9 W ∧ Blk W bA #[.int .i64 0, .int .i64 0, .int .i64 0, .int .i64 0, .int .i64 0, .int .i64 0, .int .i64 0, .int .i64 0] 28 ∧ (w.heap.size + 1 + 1 < bA))
 {
 intro X2
 apply share0 (fun (bA : Nat) (W : World) => S9 W ∧ Blk W bA #[.int .i64 0, .int .i64 0, .int .i64 0, .int .i64 0, .int .i64 0, .int .i64 0, .int .i64 0, .int .i64 0] 28 ∧ (w.heap.size + 1 + 1 < bA))
 {
 intro X1
 apply share0 (fun (bA : Nat) (W : World) => S9 W ∧ Blk W bA #[.int .i64 0, .int .i64 0, .int .i64 0, .int .i64 0, .int .i64 0, .int .i64 0, .int .i64 0, .int .i64 0] 28 ∧ (w.heap.size + 1 + 1 < bA))
 {
 intro X0
 refine tkY 0 (some 21) ?_ ?_ ?_
 rotate_left
 · intro w hS0; (try dsimp only at hS0); obtain ⟨kX, kC, _, _⟩ := hS0; obtain ⟨a0, a1, a2, a3, a4, a5, a6, a7⟩ := kX.c8; obtain ⟨b0, b1, b2, b3, b4, b5, b6, b7⟩ := kC.c8;go_simp; (try with_reducible rfl)
 (try simp only [cq])
 refine tkY 1 (some 22) ?_ ?_ ?_
 rotate_left
 · intro w hS0; (try dsimp only at hS0); obtain ⟨kX, kC, _, _⟩ := hS0; obtain ⟨a0, a1, a2, a3, a4, a5, a6, a7⟩ := kX.c8; obtain ⟨b0, b1, b2, b3, b4, b5, b6, b7⟩ := kC.c8;go_simp; (try with_reducible rfl)
 (try simp only [cq])
 refine tkY 2 (some 23) ?_ ?_ ?_
 rotate_left
 · intro w hS0; (try dsimp only at hS0); obtain ⟨kX, kC, _, _⟩ := hS0; obtain ⟨a0, a1, a2, a3, a4, a5, a6, a7⟩ := kX.c8; obtain ⟨b0, b1, b2, b3, b4, b5, b6, b7⟩ := kC.c8;go_simp; (try with_reducible rfl)
 (try simp only [cq])
 refine tkY 3 (some 24) ?_ ?_ ?_
 rotate_left
 · intro w hS0; (try dsimp only at hS0); obtain ⟨kX, kC, _, _⟩ := hS0; obtain ⟨a0, a1, a2, a3, a4, a5, a6, a7⟩ := kX.c8; obtain ⟨b0, b1, b2, b3, b4, b5, b6, b7⟩ := kC.c8;go_simp; (try with_reducible rfl)
 (try simp only [cq])
 refine tkY 5 (some 26) ?_ ?_ ?_
 rotate_left
 · intro w hS0; (try dsimp only at hS0); obtain ⟨kX, kC, _, _⟩ := hS0; obtain ⟨a0, a1, a2, a3, a4, a5, a6, a7⟩ := kX.c8; obtain ⟨b0, b1, b2, b3, b4, b5, b6, b7⟩ := kC.c8;go_simp; (try with_reducible rfl)
 (try simp only [cq])
 refine tkY 6 (some 27) ?_ ?_ ?_
 rotate_left
 · intro w hS0; (try dsimp only at hS0); obtain ⟨kX, kC, _, _⟩ := hS0; obtain ⟨a0, a1, a2, a3, a4, a5, a6, a7⟩ := kX.c8; obtain ⟨b0, b1, b2, b3, b4, b5, b6, b7⟩ := kC.c8;go_simp; (try with_reducible rfl)
 (try simp only [cq])
 refine tkY 7 (some 28) ?_ ?_ ?_
 rotate_left
 · intro w hS0; (try dsimp only at hS0); obtain ⟨kX, kC, _, _⟩ := hS0; obtain ⟨a0, a1, a2, a3, a4, a5, a6, a7⟩ := kX.c8; obtain ⟨b0, b1, b2, b3, b4, b5, b6, b7⟩ := kC.c8;go_simp; (try with_reducible rfl)
 (try simp only [cq])
 refine tkY 8 (some 29) ?_ ?_ ?_
 rotate_left
 · intro w hS0; (try dsimp only at hS0); obtain ⟨kX, kC, _, _⟩ := hS0; obtain ⟨a0, a1, a2, a3, a4, a5, a6, a7⟩ := kX.c8; obtain ⟨b0, b1, b2, b3, b4, b5, b6, b7⟩ := kC.c8;go_simp; (try with_reducible rfl)
 (try simp only [cq])
 refine tkY 10 (some 31) ?_ ?_ ?_
 rotate_left
 · intro w hS0; (try dsimp only at hS0); obtain ⟨kX, kC, _, _⟩ := hS0; obtain ⟨a0, a1, a2, a3, a4, a5, a6, a7⟩ := kX.c8; obtain ⟨b0, b1, b2, b3, b4, b5, b6, b7⟩ := kC.c8;go_simp; (try with_reducible rfl)
 (try simp only [cq])
 refine tkY 11 (some 32) ?_ ?_ ?_
 rotate_left
 · intro w hS0; (try dsimp only at hS0); obtain ⟨kX, kC, _, _⟩ := hS0; obtain ⟨a0, a1, a2, a3, a4, a5, a6, a7⟩ := kX.c8; obtain ⟨b0, b1, b2, b3, b4, b5, b6, b7⟩ := kC.c8;go_simp; (try with_reducible rfl)
 (try simp only [cq])
 refine tkY 12 (some 33) ?_ ?_ ?_
 rotate_left
 · intro w hS0; (try dsimp only at hS0); obtain ⟨kX, kC, _, _⟩ := hS0; obtain ⟨a0, a1, a2, a3, a4, a5, a6, a7⟩ := kX.c8; obtain ⟨b0, b1, b2, b3, b4, b5, b6, b7⟩ := kC.c8;go_simp; (try with_reducible rfl)
 (try simp only [cq])
 refine tkY 13 (some 34) ?_ ?_ ?_
 rotate_left
 · intro w hS0; (try dsimp only at hS0); obtain ⟨kX, kC, _, _⟩ := hS0; obtain ⟨a0, a1, a2, a3, a4, a5, a6, a7⟩ := kX.c8; obtain ⟨b0, b1, b2, b3, b4, b5, b6, b7⟩ := kC.c8;go_simp; (try with_reducible rfl)
 (try simp only [cq])
 refine tkY 15 (some 36) ?_ ?_ ?_
 rotate_left
 · intro w hS0; (try dsimp only at hS0); obtain ⟨kX, kC, _, _⟩ := hS0; obtain ⟨a0, a1, a2, a3, a4, a5, a6, a7⟩ := kX.c8; obtain ⟨b0, b1, b2, b3, b4, b5, b6, b7⟩ := kC.c8;go_simp; (try with_reducible rfl)
 (try simp only [cq])
 refine tkY 16 (some 37) ?_ ?_ ?_
 rotate_left
 · intro w hS0; (try dsimp only at hS0); obtain ⟨kX, kC, _, _⟩ := hS0; obtain ⟨a0, a1, a2, a3, a4, a5, a6, a7⟩ := kX.c8; obtain ⟨b0, b1, b2, b3, b4, b5, b6, b7⟩ := kC.c8;go_simp; (try with_reducible rfl)
 (try simp only [cq])
 refine tkY 17 (some 38) ?_ ?_ ?_
 rotate_left
 · intro w hS0; (try dsimp only at hS0); obtain ⟨kX, kC, _, _⟩ := hS0; obtain ⟨a0, a1, a2, a3, a4, a5, a6, a7⟩ := kX.c8; obtain ⟨b0, b1, b2, b3, b4, b5, b6, b7⟩ := kC.c8;go_simp; (try with_reducible rfl)
 (try simp only [cq])
 refine tkY 18 (some 39) ?_ ?_ ?_
 rotate_left
 · intro w hS0; (try dsimp only at hS0); obtain ⟨kX, kC, _, _⟩ := hS0; obtain ⟨a0, a1, a2, a3, a4, a5, a6, a7⟩ := kX.c8; obtain ⟨b0, b1, b2, b3, b4, b5, b6, b7⟩ := kC.c8;go_simp; (try with_reducible rfl)
 (try simp only [cq])
 refine wpAnyH_ready (rs := [4, 21]) (by kernel_rfl) (by simp) ?_
 refine arc (some 25) (fun K hK => ?_) ?_
 {
 go_simp
 (refine (common_any _ _ _ _ _).mono ?_; rintro e w' ⟨rfl, hb⟩; (try replace hA := hA.call hb))
 refine hK.out _ _ ?_ ?_
 · (exact ⟨hH.1.call hb, hH.2.1.call hb, hH.2.2.1.call hb, bwS hH.2.2.2 (Nat.le_refl _) hb⟩)
 (try clear hH); (try clear hb)
 intro hH
 clear hK K
 (try simp only [cq])
 refine wpAnyH_ready (rs := [9, 21]) (by kernel_rfl) (by simp) ?_
 refine arc (some 30) (fun K hK => ?_) ?_
 {
 go_simp
 (refine (common_any _ _ _ _ _).mono ?_; rintro e w' ⟨rfl, hb⟩; (try replace hA := hA.call hb))
 refine hK.out _ _ ?_ ?_
 · (exact ⟨hH.1.call hb, hH.2.1.call hb, hH.2.2.1.call hb, bwS hH.2.2.2 (Nat.le_refl _) hb⟩)
 (try clear hH); (try clear hb)
 intro hH
 clear hK K
 (try simp only [cq])
 refine wpAnyH_ready (rs := [14, 21]) (by kernel_rfl) (by simp) ?_
 refine arc (some 35) (fun K hK => ?_) ?_
 {
 go_simp
 (refine (common_any _ _ _ _ _).mono ?_; rintro e w' ⟨rfl, hb⟩; (try replace hA := hA.call hb))
 refine hK.out _ _ ?_ ?_
 · (exact ⟨hH.1.call hb, hH.2.1.call hb, hH.2.2.1.call hb, bwS hH.2.2.2 (Nat.le_refl _) hb⟩)
 (try clear hH); (try clear hb)
 intro hH
 clear hK K
 (try simp only [cq])
 refine wpAnyH_ready (rs := [19, 21]) (by kernel_rfl) (by simp) ?_
 refine arc (some 40) (fun K hK => ?_) ?_
 {
 go_simp
 (refine (common_any _ _ _ _ _).mono ?_; rintro e w' ⟨rfl, hb⟩; (try replace hA := hA.call hb))
 refine hK.out _ _ ?_ ?_
 · (exact ⟨hH.1.call hb, hH.2.1.call hb, hH.2.2.1.call hb, bwS hH.2.2.2 (Nat.le_refl _) hb⟩)
 (try clear hH); (try clear hb)
 intro hH
 clear hK K
 (try simp only [cq])
 refine tkY 20 (some 41) ?_ ?_ ?_
 rotate_left
 · intro w _; go_simp; (try with_reducible rfl)
 (try simp only [cq])
 refine wpAnyH_ready (rs := [21]) (by kernel_rfl) (by simp) ?_
 refine arc1 (some 8) fun K hK => ?_
 (have hN1 := hH.2.2.1.lt)
 go_simp
 first | refine oA hK ?_ (fun hH hA => ?_) | refine oD hK ?_ (fun hH hA => ?_)
 · exact ⟨hH.1.alloc _, hH.2.1.alloc _, hH.2.2.1.alloc _, bwA hH.2.2.2 (Nat.le_refl _) _⟩
 clear hK K
 (try simp only [cq])
 obtain ⟨bA, hbA⟩ : ∃ b, Blk.num hA = b := ⟨_, rfl⟩
 obtain ⟨W, hW⟩ : ∃ V, Blk.wld hA = V := ⟨_, rfl⟩
 simp only [Blk.num] at hbA
 simp only [Blk.wld] at hW
 rw [hW] at hH hA ⊢
 rw [hbA] at hA ⊢
 replace hN1 : w.heap.size + 1 + 1 < bA := (by rw [← hbA]; exact hN1)
 clear hW hbA
 exact X4  bA W ⟨hH, hA, hN1⟩
 }
 refine arc (some 8) (fun K hK => ?_) ?_
 {
 (have hN1 := hH.2.2.1.lt)
 go_simp
 first | refine oA hK ?_ (fun hH hA => ?_) | refine oD hK ?_ (fun hH hA => ?_)
 · exact ⟨hH.1.alloc _, hH.2.1.alloc _, hH.2.2.1.alloc _, bwA hH.2.2.2 (Nat.le_refl _) _⟩
 clear hK K
 (try simp only [cq])
 obtain ⟨bA, hbA⟩ : ∃ b, Blk.num hA = b := ⟨_, rfl⟩
 obtain ⟨W, hW⟩ : ∃ V, Blk.wld hA = V := ⟨_, rfl⟩
 simp only [Blk.num] at hbA
 simp only [Blk.wld] at hW
 rw [hW] at hH hA ⊢
 rw [hbA] at hA ⊢
 replace hN1 : w.heap.size + 1 + 1 < bA := (by rw [← hbA]; exact hN1)
 clear hW hbA
 exact X3  bA W ⟨hH, hA, hN1⟩
 }
 exact AllReadyH.nil
 }
 refine arc (some 8) (fun K hK => ?_) ?_
 {
 (have hN1 := hH.2.2.1.lt)
 go_simp
 first | refine oA hK ?_ (fun hH hA => ?_) | refine oD hK ?_ (fun hH hA => ?_)
 · exact ⟨hH.1.alloc _, hH.2.1.alloc _, hH.2.2.1.alloc _, bwA hH.2.2.2 (Nat.le_refl _) _⟩
 clear hK K
 (try simp only [cq])
 obtain ⟨bA, hbA⟩ : ∃ b, Blk.num hA = b := ⟨_, rfl⟩
 obtain ⟨W, hW⟩ : ∃ V, Blk.wld hA = V := ⟨_, rfl⟩
 simp only [Blk.num] at hbA
 simp only [Blk.wld] at hW
 rw [hW] at hH hA ⊢
 rw [hbA] at hA ⊢
 replace hN1 : w.heap.size + 1 + 1 < bA := (by rw [← hbA]; exact hN1)
 clear hW hbA
 exact X2  bA W ⟨hH, hA, hN1⟩
 }
 exact AllReadyH.nil
 }
 refine arc (some 8) (fun K hK => ?_) ?_
 {
 (have hN1 := hH.2.2.1.lt)
 go_simp
 first | refine oA hK ?_ (fun hH hA => ?_) | refine oD hK ?_ (fun hH hA => ?_)
 · exact ⟨hH.1.alloc _, hH.2.1.alloc _, hH.2.2.1.alloc _, bwA hH.2.2.2 (Nat.le_refl _) _⟩
 clear hK K
 (try simp only [cq])
 obtain ⟨bA, hbA⟩ : ∃ b, Blk.num hA = b := ⟨_, rfl⟩
 obtain ⟨W, hW⟩ : ∃ V, Blk.wld hA = V := ⟨_, rfl⟩
 simp only [Blk.num] at hbA
 simp only [Blk.wld] at hW
 rw [hW] at hH hA ⊢
 rw [hbA] at hA ⊢
 replace hN1 : w.heap.size + 1 + 1 < bA := (by rw [← hbA]; exact hN1)
 clear hW hbA
 exact X1  bA W ⟨hH, hA, hN1⟩
 }
 exact AllReadyH.nil
 }
 refine arc (some 8) (fun K hK => ?_) ?_
 {
 (have hN1 := hH.2.2.1.lt)
 go_simp
 first | refine oA hK ?_ (fun hH hA => ?_) | refine oD hK ?_ (fun hH hA => ?_)
 · exact ⟨hH.1.alloc _, hH.2.1.alloc _, hH.2.2.1.alloc _, bwA hH.2.2.2 (Nat.le_refl _) _⟩
 clear hK K
 (try simp only [cq])
 obtain ⟨bA, hbA⟩ : ∃ b, Blk.num hA = b := ⟨_, rfl⟩
 obtain ⟨W, hW⟩ : ∃ V, Blk.wld hA = V := ⟨_, rfl⟩
 simp only [Blk.num] at hbA
 simp only [Blk.wld] at hW
 rw [hW] at hH hA ⊢
 rw [hbA] at hA ⊢
 replace hN1 : w.heap.size + 1 + 1 < bA := (by rw [← hbA]; exact hN1)
 clear hW hbA
 exact X0  bA W ⟨hH, hA, hN1⟩
 }
 exact AllReadyH.nil
 }
 {
 intro bA W hall
 obtain ⟨hH, hA, hN1⟩ := hall
 (try dsimp only at hH)
 (try clear X2 X3 X4)
 refine wpAnyH_ready (rs := [4]) (by kernel_rfl) (by simp) ?_
 refine arc1 (some 25) fun K hK => ?_
 go_simp
 (refine (common_any _ _ _ _ _).mono ?_; rintro e w' ⟨rfl, hb⟩; (try replace hA := hA.call hb))
 refine hK.out _ _ ?_ ?_
 · (exact ⟨hH.1.call hb, hH.2.1.call hb, hH.2.2.1.call hb, bwS hH.2.2.2 (Nat.le_refl _) hb⟩)
 (try clear hH); (try clear hb)
 intro hH
 clear hK K
 (try simp only [cq])
 exact X1  bA w' ⟨hH, hA, hN1⟩
 }
 }
 {
 intro bA W hall
 obtain ⟨hH, hA, hN1⟩ := hall
 (try dsimp only at hH)
 (try clear X3 X4)
 refine wpAnyH_ready (rs := [9]) (by kernel_rfl) (by simp) ?_
 refine arc1 (some 30) fun K hK => ?_
 go_simp
 (refine (common_any _ _ _ _ _).mono ?_; rintro e w' ⟨rfl, hb⟩; (try replace hA := hA.call hb))
 refine hK.out _ _ ?_ ?_
 · (exact ⟨hH.1.call hb, hH.2.1.call hb, hH.2.2.1.call hb, bwS hH.2.2.2 (Nat.le_refl _) hb⟩)
 (try clear hH); (try clear hb)
 intro hH
 clear hK K
 (try simp only [cq])
 exact X2  bA w' ⟨hH, hA, hN1⟩
 }
 }
 {
 intro bA W hall
 obtain ⟨hH, hA, hN1⟩ := hall
 (try dsimp only at hH)
 (try clear X4)
 refine wpAnyH_ready (rs := [14]) (by kernel_rfl) (by simp) ?_
 refine arc1 (some 35) fun K hK => ?_
 go_simp
 (refine (common_any _ _ _ _ _).mono ?_; rintro e w' ⟨rfl, hb⟩; (try replace hA := hA.call hb))
 refine hK.out _ _ ?_ ?_
 · (exact ⟨hH.1.call hb, hH.2.1.call hb, hH.2.2.1.call hb, bwS hH.2.2.2 (Nat.le_refl _) hb⟩)
 (try clear hH); (try clear hb)
 intro hH
 clear hK K
 (try simp only [cq])
 exact X3  bA w' ⟨hH, hA, hN1⟩
 }
 }
 {
 intro bA W hall
 obtain ⟨hH, hA, hN1⟩ := hall
 (try dsimp only at hH)
 refine wpAnyH_ready (rs := [19]) (by kernel_rfl) (by simp) ?_
 refine arc1 (some 40) fun K hK => ?_
 go_simp
 (refine (common_any _ _ _ _ _).mono ?_; rintro e w' ⟨rfl, hb⟩; (try replace hA := hA.call hb))
 refine hK.out _ _ ?_ ?_
 · (exact ⟨hH.1.call hb, hH.2.1.call hb, hH.2.2.1.call hb, bwS hH.2.2.2 (Nat.le_refl _) hb⟩)
 (try clear hH); (try clear hb)
 intro hH
 clear hK K
 (try simp only [cq])
 refine tkY 20 (some 41) ?_ ?_ ?_
 rotate_left
 · intro w _; go_simp; (try with_reducible rfl)
 (try simp only [cq])
 exact X4  bA w' ⟨hH, hA, hN1⟩
 }
 }
 {
 intro bA W hall
 obtain ⟨hH, hA, hN1⟩ := hall
 (try dsimp only at hH)
 refine wpAnyH_ready (rs := [22]) (by kernel_rfl) (by simp) ?_
 refine arc1 none fun K hK => ?_
 obtain ⟨hX, hC, hR, hB⟩ := hH
 obtain ⟨r0, r1, r2, r3, r4, r5, r6, r7⟩ := hA.c8
 have fr0 := hA.free 0
 have fr1 := hA.free 1
 have fr2 := hA.free 2
 have fr3 := hA.free 3
 have fr4 := hA.free 4
 have fr5 := hA.free 5
 have fr6 := hA.free 6
 have fr7 := hA.free 7
 have zR := hA.lt
 have HS := Lib.hid (hA.set8 (.int .i64 (max x.b0 c.b0)) (.int .i64 (min x.b1 c.b1)) (.int .i64 (max x.w0 c.w0)) (.int .i64 (min x.w1 c.w1)) (.int .i64 (max x.q0 c.q0)) (.int .i64 (min x.q1 c.q1)) (.int .i64 (max x.s0 c.s0)) (.int .i64 (min x.s1 c.s1)))
 go_simp
 refine hK.out _ _ ?_ ?_
 · refine ⟨hX.other8 (by omega) _ _ _ _ _ _ _ _, hC.other8 (by omega) _ _ _ _ _ _ _ _, hR.other8 (by omega) _ _ _ _ _ _ _ _, ?_⟩; (iterate 8 refine Below.setCell ?_ (by simp; omega) _); exact hB
 (try clear hH); (try clear hb)
 intro hH
 clear hK K
 (try simp only [cq])
 refine wpAnyH_done (by kernel_rfl) ?_ _
 (try dsimp only [Act.put])
 (try simp only [cq])
 clear hA r0 r1 r2 r3 r4 r5 r6 r7 fr0 fr1 fr2 fr3 fr4 fr5 fr6 fr7 zR hX hC hR hB
 go_wp2_with fail
 go_meet
 exact ⟨_, rfl, HS.out, hH.2.2.1, hN1, hH.2.2.2⟩
 } )
  case rest =>
    obtain ⟨bY, rfl, hY, hR, hN, hB⟩ := hcut
    clear jX jC jR jB
    obtain ⟨a0, a1, a2, a3, a4, a5, a6, a7⟩ := hY.c8
    have zY := hY.lt
    by_cases c0 : min x.b1 c.b1 < max x.b0 c.b0
    · have HP := Lib.hid (co_clash h00.out (.inl c0))
      obtain ⟨r0, r1, r2, r3, r4, r5, r6, r7⟩ := hR.c8
      have f0 := hR.free 0
      have f1 := hR.free 1
      have f2 := hR.free 2
      have f3 := hR.free 3
      have f4 := hR.free 4
      have f5 := hR.free 5
      have f6 := hR.free 6
      have f7 := hR.free 7
      have zR := hR.lt
      have HQ := Lib.hid (hR.set8 (.int .i64 0) (.int .i64 0) (.int .i64 0) (.int .i64 0) (.int .i64 0) (.int .i64 0) (.int .i64 0) (.int .i64 0)).c8
      go_wp2
      obtain ⟨z0, z1, z2, z3, z4, z5, z6, z7⟩ := HQ.out
      refine bodyPost_ret (v := .tuple #[.agg #[.int .i64 0, .int .i64 0, .int .i64 0, .int .i64 0, .int .i64 0, .int .i64 0, .int .i64 0, .int .i64 0], .int .i64 12]) (by simp [results, Try.results28, go_sem, z0, z1, z2, z3, z4, z5, z6, z7]) rfl ⟨by rw [HP.out.1, HP.out.2], ?_⟩
      iterate 8 refine Below.setCell ?_ (by simp; omega) _
      exact hB
    by_cases c1 : min x.w1 c.w1 < max x.w0 c.w0
    · have HP := Lib.hid (co_clash h00.out (.inr (.inl c1)))
      obtain ⟨r0, r1, r2, r3, r4, r5, r6, r7⟩ := hR.c8
      have f0 := hR.free 0
      have f1 := hR.free 1
      have f2 := hR.free 2
      have f3 := hR.free 3
      have f4 := hR.free 4
      have f5 := hR.free 5
      have f6 := hR.free 6
      have f7 := hR.free 7
      have zR := hR.lt
      have HQ := Lib.hid (hR.set8 (.int .i64 0) (.int .i64 0) (.int .i64 0) (.int .i64 0) (.int .i64 0) (.int .i64 0) (.int .i64 0) (.int .i64 0)).c8
      go_wp2
      obtain ⟨z0, z1, z2, z3, z4, z5, z6, z7⟩ := HQ.out
      refine bodyPost_ret (v := .tuple #[.agg #[.int .i64 0, .int .i64 0, .int .i64 0, .int .i64 0, .int .i64 0, .int .i64 0, .int .i64 0, .int .i64 0], .int .i64 12]) (by simp [results, Try.results28, go_sem, z0, z1, z2, z3, z4, z5, z6, z7]) rfl ⟨by rw [HP.out.1, HP.out.2], ?_⟩
      iterate 8 refine Below.setCell ?_ (by simp; omega) _
      exact hB
    by_cases c2 : min x.q1 c.q1 < max x.q0 c.q0
    · have HP := Lib.hid (co_clash h00.out (.inr (.inr (.inl c2))))
      obtain ⟨r0, r1, r2, r3, r4, r5, r6, r7⟩ := hR.c8
      have f0 := hR.free 0
      have f1 := hR.free 1
      have f2 := hR.free 2
      have f3 := hR.free 3
      have f4 := hR.free 4
      have f5 := hR.free 5
      have f6 := hR.free 6
      have f7 := hR.free 7
      have zR := hR.lt
      have HQ := Lib.hid (hR.set8 (.int .i64 0) (.int .i64 0) (.int .i64 0) (.int .i64 0) (.int .i64 0) (.int .i64 0) (.int .i64 0) (.int .i64 0)).c8
      go_wp2
      obtain ⟨z0, z1, z2, z3, z4, z5, z6, z7⟩ := HQ.out
      refine bodyPost_ret (v := .tuple #[.agg #[.int .i64 0, .int .i64 0, .int .i64 0, .int .i64 0, .int .i64 0, .int .i64 0, .int .i64 0, .int .i64 0], .int .i64 12]) (by simp [results, Try.results28, go_sem, z0, z1, z2, z3, z4, z5, z6, z7]) rfl ⟨by rw [HP.out.1, HP.out.2], ?_⟩
      iterate 8 refine Below.setCell ?_ (by simp; omega) _
      exact hB
    by_cases c3 : min x.s1 c.s1 < max x.s0 c.s0
    · have HP := Lib.hid (co_clash h00.out (.inr (.inr (.inr (c3)))))
      obtain ⟨r0, r1, r2, r3, r4, r5, r6, r7⟩ := hR.c8
      have f0 := hR.free 0
      have f1 := hR.free 1
      have f2 := hR.free 2
      have f3 := hR.free 3
      have f4 := hR.free 4
      have f5 := hR.free 5
      have f6 := hR.free 6
      have f7 := hR.free 7
      have zR := hR.lt
      have HQ := Lib.hid (hR.set8 (.int .i64 0) (.int .i64 0) (.int .i64 0) (.int .i64 0) (.int .i64 0) (.int .i64 0) (.int .i64 0) (.int .i64 0)).c8
      go_wp2
      obtain ⟨z0, z1, z2, z3, z4, z5, z6, z7⟩ := HQ.out
      refine bodyPost_ret (v := .tuple #[.agg #[.int .i64 0, .int .i64 0, .int .i64 0, .int .i64 0, .int .i64 0, .int .i64 0, .int .i64 0, .int .i64 0], .int .i64 12]) (by simp [results, Try.results28, go_sem, z0, z1, z2, z3, z4, z5, z6, z7]) rfl ⟨by rw [HP.out.1, HP.out.2], ?_⟩
      iterate 8 refine Below.setCell ?_ (by simp; omega) _
      exact hB
    have HP := Lib.hid (co_ok h00.out (fun h => h.elim c0 (fun h => h.elim c1 (fun h => h.elim c2 c3))))
    obtain ⟨r0, r1, r2, r3, r4, r5, r6, r7⟩ := hR.c8
    have f0 := hR.free 0
    have f1 := hR.free 1
    have f2 := hR.free 2
    have f3 := hR.free 3
    have f4 := hR.free 4
    have f5 := hR.free 5
    have f6 := hR.free 6
    have f7 := hR.free 7
    have zR := hR.lt
    have HQ := Lib.hid (hR.set8 (.int .i64 (max x.b0 c.b0)) (.int .i64 (min x.b1 c.b1)) (.int .i64 (max x.w0 c.w0)) (.int .i64 (min x.w1 c.w1)) (.int .i64 (max x.q0 c.q0)) (.int .i64 (min x.q1 c.q1)) (.int .i64 (max x.s0 c.s0)) (.int .i64 (min x.s1 c.s1))).c8
    go_wp2
    obtain ⟨z0, z1, z2, z3, z4, z5, z6, z7⟩ := HQ.out
    refine bodyPost_ret (v := .tuple #[.agg #[.int .i64 (max x.b0 c.b0), .int .i64 (min x.b1 c.b1), .int .i64 (max x.w0 c.w0), .int .i64 (min x.w1 c.w1), .int .i64 (max x.q0 c.q0), .int .i64 (min x.q1 c.q1), .int .i64 (max x.s0 c.s0), .int .i64 (min x.s1 c.s1)], .int .i64 0]) (by simp [results, Try.results28, go_sem, z0, z1, z2, z3, z4, z5, z6, z7]) rfl ⟨by rw [HP.out.1, HP.out.2], ?_⟩
    iterate 8 refine Below.setCell ?_ (by simp; omega) _
    exact hB
end Go.Proofs.Ytkldjaofgdklbaa

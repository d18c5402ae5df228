/-
  The reference's step: the same as the program's.
-/
import Derived.Test.YtdbiijldincoiaaGreatTail
import Derived.Test.YtdbiijldincoiaaGreatRef4
set_option linter.unusedVariables false
set_option linter.unusedSimpArgs false
namespace Go.Proofs.YtdbiijldincoiaaGreat
open Go.RowKit


set_option maxRecDepth 100000 in
set_option maxHeartbeats 16000000 in
theorem rstep_cold (l : Lw) (x : Ic) (d : Dy) (va : Option Addr) (vcap : Nat) (w : World) (hl : l.Ok) (hn : l.n ≤ 1000000) (hv : CovAt w (.slice va l.n vcap) l.n l.D l.P0 l.P1) (hx : x.In 400000000) (hd : d.Ok) (hc : 0 ≤ d.c0) (y : Ic) (hy : y = coldI l (openI l x d) d.c0 d.c1) :
    Calls Tryz.prog 64 #[.agg #[.int .i64 l.gr, .int .i64 l.la, (.slice va l.n vcap), .int .i64 l.m0, .int .i64 l.m1, .int .i64 l.so, .int .i64 l.h0, .int .i64 l.h1], .agg #[.int .i64 x.b0, .int .i64 x.b1, .int .i64 x.w0, .int .i64 x.w1, .int .i64 x.q0, .int .i64 x.q1, .int .i64 x.s0, .int .i64 x.s1], .agg #[.int .i64 d.c0, .int .i64 d.c1, .int .i64 d.f0, .int .i64 d.f1, .int .i64 d.wa, .bool d.cl]] w fun e w' => e = .returned (.agg #[.int .i64 y.b0, .int .i64 y.b1, .int .i64 y.w0, .int .i64 y.w1, .int .i64 y.q0, .int .i64 y.q1, .int .i64 y.s0, .int .i64 y.s1]) ∧ Below w.heap.size w w' := by
  obtain ⟨o, ho⟩ : ∃ o, openI l x d = o := ⟨_, rfl⟩
  have hoi := open_in hl hx hd
  rw [ho] at hoi hy
  have d0 := hd.c0
  have d1 := hd.c1
  have d2 := hd.c2
  have d3 := hd.f0
  have d4 := hd.f1
  have d5 := hd.f2
  obtain ⟨b1, b2, b3, b4, b5, b6, b7, b8, b9, b10, b11, b12, b13, b14, b15, b16⟩ := hx
  have E1 : Hid (∀ W, Calls Tryz.prog 84 #[.agg #[.int .i64 x.b0, .int .i64 x.b1, .int .i64 x.w0, .int .i64 x.w1, .int .i64 x.q0, .int .i64 x.q1, .int .i64 x.s0, .int .i64 x.s1]] W fun e w' => e = .returned (.agg #[.int .i64 x.b0, .int .i64 x.w0, .int .i64 x.q0, .int .i64 x.s0]) ∧ Below W.heap.size W w') := fun W => rleast_any x W
  have E2 : Hid (∀ W, Calls Tryz.prog 85 #[.agg #[.int .i64 x.b0, .int .i64 x.b1, .int .i64 x.w0, .int .i64 x.w1, .int .i64 x.q0, .int .i64 x.q1, .int .i64 x.s0, .int .i64 x.s1]] W fun e w' => e = .returned (.agg #[.int .i64 x.b1, .int .i64 x.w1, .int .i64 x.q1, .int .i64 x.s1]) ∧ Below W.heap.size W w') := fun W => rgreatest_any x W
  have O1 : Hid (∀ W, Calls Tryz.prog 83 #[.agg #[.int .i64 l.gr, .int .i64 l.la, (.slice va l.n vcap), .int .i64 l.m0, .int .i64 l.m1, .int .i64 l.so, .int .i64 l.h0, .int .i64 l.h1], .agg #[.int .i64 x.b0, .int .i64 x.w0, .int .i64 x.q0, .int .i64 x.s0], .agg #[.int .i64 d.c0, .int .i64 d.c1, .int .i64 d.f0, .int .i64 d.f1, .int .i64 d.wa, .bool d.cl], .int .i64 d.f0] W fun e w' => e = .returned (.agg #[.int .i64 o.b0, .int .i64 o.w0, .int .i64 o.q0, .int .i64 o.s0]) ∧ Below W.heap.size W w') := fun W => by
    rw [← ho]
    exact ropened_any l va vcap x.b0 x.w0 x.q0 x.s0 d d.f0 W hl (by omega) (by omega) (by omega) (by omega) (by omega) (by omega) hd.w1
  have O2 : Hid (∀ W, Calls Tryz.prog 83 #[.agg #[.int .i64 l.gr, .int .i64 l.la, (.slice va l.n vcap), .int .i64 l.m0, .int .i64 l.m1, .int .i64 l.so, .int .i64 l.h0, .int .i64 l.h1], .agg #[.int .i64 x.b1, .int .i64 x.w1, .int .i64 x.q1, .int .i64 x.s1], .agg #[.int .i64 d.c0, .int .i64 d.c1, .int .i64 d.f0, .int .i64 d.f1, .int .i64 d.wa, .bool d.cl], .int .i64 d.f1] W fun e w' => e = .returned (.agg #[.int .i64 o.b1, .int .i64 o.w1, .int .i64 o.q1, .int .i64 o.s1]) ∧ Below W.heap.size W w') := fun W => by
    rw [← ho]
    exact ropened_any l va vcap x.b1 x.w1 x.q1 x.s1 d d.f1 W hl (by omega) (by omega) (by omega) (by omega) (by omega) (by omega) hd.w1
  have C1 : Hid (∀ W, Below w.heap.size w W → Calls Tryz.prog 86 #[.agg #[.int .i64 l.gr, .int .i64 l.la, (.slice va l.n vcap), .int .i64 l.m0, .int .i64 l.m1, .int .i64 l.so, .int .i64 l.h0, .int .i64 l.h1], .agg #[.int .i64 o.b0, .int .i64 o.w0, .int .i64 o.q0, .int .i64 o.s0], .agg #[.int .i64 o.b1, .int .i64 o.w1, .int .i64 o.q1, .int .i64 o.s1], .int .i64 d.c0, .int .i64 d.c1] W fun e w' => e = .returned (.agg #[.int .i64 y.b0, .int .i64 y.b1, .int .i64 y.w0, .int .i64 y.w1, .int .i64 y.q0, .int .i64 y.q1, .int .i64 y.s0, .int .i64 y.s1]) ∧ Below W.heap.size W w') := fun W hW => rcold_any l va vcap o d.c0 d.c1 W hl hn (hv.later hW) hoi (by omega) (by omega) (by omega) (by omega) y hy
  have n0 : IntKind.i64.wrap (-d.c0) = -d.c0 := IntWalk.i64_in _ (by omega)
  have n1 : IntKind.i64.wrap (-d.c1) = -d.c1 := IntWalk.i64_in _ (by omega)
  clear hv hl hn hd ho hoi hy b1 b2 b3 b4 b5 b6 b7 b8 b9 b10 b11 b12 b13 b14 b15 b16 d3 d4 d5
  have j0 : Blk ((((w.alloc (.cells #[.int .i64 l.gr, .int .i64 l.la, .slice va l.n vcap, .int .i64 l.m0, .int .i64 l.m1, .int .i64 l.so, .int .i64 l.h0, .int .i64 l.h1] 26)).alloc (.cells #[.int .i64 x.b0, .int .i64 x.b1, .int .i64 x.w0, .int .i64 x.w1, .int .i64 x.q0, .int .i64 x.q1, .int .i64 x.s0, .int .i64 x.s1] 28)).alloc (.cells #[.int .i64 d.c0, .int .i64 d.c1, .int .i64 d.f0, .int .i64 d.f1, .int .i64 d.wa, .bool d.cl] 58)).alloc (.cells #[.int .i64 0, .int .i64 0, .int .i64 0, .int .i64 0, .int .i64 0, .int .i64 0, .int .i64 0, .int .i64 0] 28)) w.heap.size #[.int .i64 l.gr, .int .i64 l.la, .slice va l.n vcap, .int .i64 l.m0, .int .i64 l.m1, .int .i64 l.so, .int .i64 l.h0, .int .i64 l.h1] 26 := (((Blk.new w _ _).alloc _).alloc _).alloc _
  have j1 : Blk ((((w.alloc (.cells #[.int .i64 l.gr, .int .i64 l.la, .slice va l.n vcap, .int .i64 l.m0, .int .i64 l.m1, .int .i64 l.so, .int .i64 l.h0, .int .i64 l.h1] 26)).alloc (.cells #[.int .i64 x.b0, .int .i64 x.b1, .int .i64 x.w0, .int .i64 x.w1, .int .i64 x.q0, .int .i64 x.q1, .int .i64 x.s0, .int .i64 x.s1] 28)).alloc (.cells #[.int .i64 d.c0, .int .i64 d.c1, .int .i64 d.f0, .int .i64 d.f1, .int .i64 d.wa, .bool d.cl] 58)).alloc (.cells #[.int .i64 0, .int .i64 0, .int .i64 0, .int .i64 0, .int .i64 0, .int .i64 0, .int .i64 0, .int .i64 0] 28)) (w.heap.size + 1) #[.int .i64 x.b0, .int .i64 x.b1, .int .i64 x.w0, .int .i64 x.w1, .int .i64 x.q0, .int .i64 x.q1, .int .i64 x.s0, .int .i64 x.s1] 28 := ((Blk.new1 w _ _ _).alloc _).alloc _
  have j2 : Blk ((((w.alloc (.cells #[.int .i64 l.gr, .int .i64 l.la, .slice va l.n vcap, .int .i64 l.m0, .int .i64 l.m1, .int .i64 l.so, .int .i64 l.h0, .int .i64 l.h1] 26)).alloc (.cells #[.int .i64 x.b0, .int .i64 x.b1, .int .i64 x.w0, .int .i64 x.w1, .int .i64 x.q0, .int .i64 x.q1, .int .i64 x.s0, .int .i64 x.s1] 28)).alloc (.cells #[.int .i64 d.c0, .int .i64 d.c1, .int .i64 d.f0, .int .i64 d.f1, .int .i64 d.wa, .bool d.cl] 58)).alloc (.cells #[.int .i64 0, .int .i64 0, .int .i64 0, .int .i64 0, .int .i64 0, .int .i64 0, .int .i64 0, .int .i64 0] 28)) (w.heap.size + 1 + 1) #[.int .i64 d.c0, .int .i64 d.c1, .int .i64 d.f0, .int .i64 d.f1, .int .i64 d.wa, .bool d.cl] 58 := (Blk.new2 w _ _ _ _).alloc _
  have j3 : Eight ((((w.alloc (.cells #[.int .i64 l.gr, .int .i64 l.la, .slice va l.n vcap, .int .i64 l.m0, .int .i64 l.m1, .int .i64 l.so, .int .i64 l.h0, .int .i64 l.h1] 26)).alloc (.cells #[.int .i64 x.b0, .int .i64 x.b1, .int .i64 x.w0, .int .i64 x.w1, .int .i64 x.q0, .int .i64 x.q1, .int .i64 x.s0, .int .i64 x.s1] 28)).alloc (.cells #[.int .i64 d.c0, .int .i64 d.c1, .int .i64 d.f0, .int .i64 d.f1, .int .i64 d.wa, .bool d.cl] 58)).alloc (.cells #[.int .i64 0, .int .i64 0, .int .i64 0, .int .i64 0, .int .i64 0, .int .i64 0, .int .i64 0, .int .i64 0] 28)) (w.heap.size + 1 + 1 + 1) 28 := ⟨_, _, _, _, _, _, _, _, Blk.new3 w (.cells #[.int .i64 l.gr, .int .i64 l.la, .slice va l.n vcap, .int .i64 l.m0, .int .i64 l.m1, .int .i64 l.so, .int .i64 l.h0, .int .i64 l.h1] 26) (.cells #[.int .i64 x.b0, .int .i64 x.b1, .int .i64 x.w0, .int .i64 x.w1, .int .i64 x.q0, .int .i64 x.q1, .int .i64 x.s0, .int .i64 x.s1] 28) (.cells #[.int .i64 d.c0, .int .i64 d.c1, .int .i64 d.f0, .int .i64 d.f1, .int .i64 d.wa, .bool d.cl] 58) #[.int .i64 0, .int .i64 0, .int .i64 0, .int .i64 0, .int .i64 0, .int .i64 0, .int .i64 0, .int .i64 0] 28⟩
  have jB : Below w.heap.size w ((((w.alloc (.cells #[.int .i64 l.gr, .int .i64 l.la, .slice va l.n vcap, .int .i64 l.m0, .int .i64 l.m1, .int .i64 l.so, .int .i64 l.h0, .int .i64 l.h1] 26)).alloc (.cells #[.int .i64 x.b0, .int .i64 x.b1, .int .i64 x.w0, .int .i64 x.w1, .int .i64 x.q0, .int .i64 x.q1, .int .i64 x.s0, .int .i64 x.s1] 28)).alloc (.cells #[.int .i64 d.c0, .int .i64 d.c1, .int .i64 d.f0, .int .i64 d.f1, .int .i64 d.wa, .bool d.cl] 58)).alloc (.cells #[.int .i64 0, .int .i64 0, .int .i64 0, .int .i64 0, .int .i64 0, .int .i64 0, .int .i64 0, .int .i64 0] 28)) := by (repeat (first | exact Below.refl _ _ | assumption | refine Below.drew ?_ | refine Below.drewN ?_ _ | refine blT ?_ | refine blU ?_))
  go_enter Tryz.func64, Tryz.ntmps64
  go_upto_region 1 with fail
  generalize ((((w.alloc (.cells #[.int .i64 l.gr, .int .i64 l.la, .slice va l.n vcap, .int .i64 l.m0, .int .i64 l.m1, .int .i64 l.so, .int .i64 l.h0, .int .i64 l.h1] 26)).alloc (.cells #[.int .i64 x.b0, .int .i64 x.b1, .int .i64 x.w0, .int .i64 x.w1, .int .i64 x.q0, .int .i64 x.q1, .int .i64 x.s0, .int .i64 x.s1] 28)).alloc (.cells #[.int .i64 d.c0, .int .i64 d.c1, .int .i64 d.f0, .int .i64 d.f1, .int .i64 d.wa, .bool d.cl] 58)).alloc (.cells #[.int .i64 0, .int .i64 0, .int .i64 0, .int .i64 0, .int .i64 0, .int .i64 0, .int .i64 0, .int .i64 0] 28)) = V at j0 j1 j2 j3 jB ⊢
  go_upto_region 1 with fail
  go_cut [7, 8] (fun s7 s8 wx => ∃ bA bE : Nat, s7 = .pointer (some ⟨bA, 0, none⟩) ∧ s8 = .pointer (some ⟨bE, 0, none⟩) ∧ Blk wx bA #[.int .i64 o.b0, .int .i64 o.w0, .int .i64 o.q0, .int .i64 o.s0] 117 ∧ Blk wx bE #[.int .i64 o.b1, .int .i64 o.w1, .int .i64 o.q1, .int .i64 o.s1] 117 ∧ w.heap.size + 1 + 1 + 1 < bA ∧ w.heap.size + 1 + 1 + 1 < bE ∧ Blk wx (w.heap.size) #[.int .i64 l.gr, .int .i64 l.la, .slice va l.n vcap, .int .i64 l.m0, .int .i64 l.m1, .int .i64 l.so, .int .i64 l.h0, .int .i64 l.h1] 26 ∧ Blk wx (w.heap.size + 1) #[.int .i64 x.b0, .int .i64 x.b1, .int .i64 x.w0, .int .i64 x.w1, .int .i64 x.q0, .int .i64 x.q1, .int .i64 x.s0, .int .i64 x.s1] 28 ∧ Blk wx (w.heap.size + 1 + 1) #[.int .i64 d.c0, .int .i64 d.c1, .int .i64 d.f0, .int .i64 d.f1, .int .i64 d.wa, .bool d.cl] 58 ∧ Eight wx (w.heap.size + 1 + 1 + 1) 28 ∧ Below w.heap.size w wx)
  case first =>
    (
 let S9 : World → Prop := (fun w' => Blk w' (w.heap.size) #[.int .i64 l.gr, .int .i64 l.la, .slice va l.n vcap, .int .i64 l.m0, .int .i64 l.m1, .int .i64 l.so, .int .i64 l.h0, .int .i64 l.h1] 26 ∧ Blk w' (w.heap.size + 1) #[.int .i64 x.b0, .int .i64 x.b1, .int .i64 x.w0, .int .i64 x.w1, .int .i64 x.q0, .int .i64 x.q1, .int .i64 x.s0, .int .i64 x.s1] 28 ∧ Blk w' (w.heap.size + 1 + 1) #[.int .i64 d.c0, .int .i64 d.c1, .int .i64 d.f0, .int .i64 d.f1, .int .i64 d.wa, .bool d.cl] 58 ∧ Eight w' (w.heap.size + 1 + 1 + 1) 28 ∧ Below w.heap.size w w')
 refine wp_region_held_drew (S := S9) (by kernel_rfl) ?_ (fun hH => ?_)
 · (try dsimp only); (exact ⟨j0.drew, j1.drew, j2.drew, j3, jB.drew⟩)
 apply share0_2 (fun (bA bE : Nat) (W : World) => S9 W ∧ Blk W bA #[.int .i64 0, .int .i64 0, .int .i64 0, .int .i64 0] 117 ∧ Blk W bE #[.int .i64 0, .int .i64 0, .int .i64 0, .int .i64 0] 117 ∧ (w.heap.size + 1 + 1 + 1 < bA) ∧ (w.heap.size + 1 + 1 + 1 < bE) ∧ (bA ≠ bE))
 {
 intro X4_01
 apply share0_2 (fun (bA bE : Nat) (W : World) => S9 W ∧ Blk W bA #[.int .i64 0, .int .i64 0, .int .i64 0, .int .i64 0] 117 ∧ Blk W bE #[.int .i64 0, .int .i64 0, .int .i64 0, .int .i64 0] 117 ∧ (w.heap.size + 1 + 1 + 1 < bA) ∧ (w.heap.size + 1 + 1 + 1 < bE) ∧ (bA ≠ bE))
 {
 intro X3_01
 apply share0_1 (fun (bA : Nat) (W : World) => S9 W ∧ Blk W bA #[.int .i64 0, .int .i64 0, .int .i64 0, .int .i64 0] 117 ∧ (w.heap.size + 1 + 1 + 1 < bA))
 {
 intro X4_0
 apply share0_1 (fun (bE : Nat) (W : World) => S9 W ∧ Blk W bE #[.int .i64 0, .int .i64 0, .int .i64 0, .int .i64 0] 117 ∧ (w.heap.size + 1 + 1 + 1 < bE))
 {
 intro X4_1
 apply share0_2 (fun (bA bE : Nat) (W : World) => S9 W ∧ Blk W bA #[.int .i64 0, .int .i64 0, .int .i64 0, .int .i64 0] 117 ∧ Blk W bE #[.int .i64 0, .int .i64 0, .int .i64 0, .int .i64 0] 117 ∧ (w.heap.size + 1 + 1 + 1 < bA) ∧ (w.heap.size + 1 + 1 + 1 < bE) ∧ (bA ≠ bE))
 {
 intro X2_01
 apply share0_1 (fun (bA : Nat) (W : World) => S9 W ∧ Blk W bA #[.int .i64 0, .int .i64 0, .int .i64 0, .int .i64 0] 117 ∧ (w.heap.size + 1 + 1 + 1 < bA))
 {
 intro X3_0
 apply share0_1 (fun (bE : Nat) (W : World) => S9 W ∧ Blk W bE #[.int .i64 0, .int .i64 0, .int .i64 0, .int .i64 0] 117 ∧ (w.heap.size + 1 + 1 + 1 < bE))
 {
 intro X3_1
 apply share0_2 (fun (bA bE : Nat) (W : World) => S9 W ∧ Blk W bA #[.int .i64 0, .int .i64 0, .int .i64 0, .int .i64 0] 117 ∧ Blk W bE #[.int .i64 0, .int .i64 0, .int .i64 0, .int .i64 0] 117 ∧ (w.heap.size + 1 + 1 + 1 < bA) ∧ (w.heap.size + 1 + 1 + 1 < bE) ∧ (bA ≠ bE))
 {
 intro X1_01
 apply share0_1 (fun (bA : Nat) (W : World) => S9 W ∧ Blk W bA #[.int .i64 0, .int .i64 0, .int .i64 0, .int .i64 0] 117 ∧ (w.heap.size + 1 + 1 + 1 < bA))
 {
 intro X2_0
 apply share0_1 (fun (bE : Nat) (W : World) => S9 W ∧ Blk W bE #[.int .i64 0, .int .i64 0, .int .i64 0, .int .i64 0] 117 ∧ (w.heap.size + 1 + 1 + 1 < bE))
 {
 intro X2_1
 apply share0_2 (fun (bA bE : Nat) (W : World) => S9 W ∧ Blk W bA #[.int .i64 0, .int .i64 0, .int .i64 0, .int .i64 0] 117 ∧ Blk W bE #[.int .i64 0, .int .i64 0, .int .i64 0, .int .i64 0] 117 ∧ (w.heap.size + 1 + 1 + 1 < bA) ∧ (w.heap.size + 1 + 1 + 1 < bE) ∧ (bA ≠ bE))
 {
 intro X0_01
 apply share0_1 (fun (bA : Nat) (W : World) => S9 W ∧ Blk W bA #[.int .i64 0, .int .i64 0, .int .i64 0, .int .i64 0] 117 ∧ (w.heap.size + 1 + 1 + 1 < bA))
 {
 intro X1_0
 apply share0_1 (fun (bE : Nat) (W : World) => S9 W ∧ Blk W bE #[.int .i64 0, .int .i64 0, .int .i64 0, .int .i64 0] 117 ∧ (w.heap.size + 1 + 1 + 1 < bE))
 {
 intro X1_1
 apply share0_1 (fun (bA : Nat) (W : World) => S9 W ∧ Blk W bA #[.int .i64 0, .int .i64 0, .int .i64 0, .int .i64 0] 117 ∧ (w.heap.size + 1 + 1 + 1 < bA))
 {
 intro X0_0
 apply share0_1 (fun (bE : Nat) (W : World) => S9 W ∧ Blk W bE #[.int .i64 0, .int .i64 0, .int .i64 0, .int .i64 0] 117 ∧ (w.heap.size + 1 + 1 + 1 < bE))
 {
 intro X0_1
 refine tkY 0 (some 11) ?_ ?_ ?_
 rotate_left
 · intro w hS0; (try dsimp only at hS0); obtain ⟨kl, ka, kh, _, _⟩ := hS0; obtain ⟨l0, l1, l2, l3, l4, l5, l6, l7⟩ := kl.c8; obtain ⟨a0, a1, a2, a3, a4, a5, a6, a7⟩ := ka.c8; obtain ⟨h0, h1, h2, h3, h4, h5⟩ := kh.c6;go_simp; (try with_reducible rfl)
 (try simp only [cq])
 refine tkY 1 (some 12) ?_ ?_ ?_
 rotate_left
 · intro w hS0; (try dsimp only at hS0); obtain ⟨kl, ka, kh, _, _⟩ := hS0; obtain ⟨l0, l1, l2, l3, l4, l5, l6, l7⟩ := kl.c8; obtain ⟨a0, a1, a2, a3, a4, a5, a6, a7⟩ := ka.c8; obtain ⟨h0, h1, h2, h3, h4, h5⟩ := kh.c6;go_simp; (try with_reducible rfl)
 (try simp only [cq])
 refine tkY 3 (some 14) ?_ ?_ ?_
 rotate_left
 · intro w hS0; (try dsimp only at hS0); obtain ⟨kl, ka, kh, _, _⟩ := hS0; obtain ⟨l0, l1, l2, l3, l4, l5, l6, l7⟩ := kl.c8; obtain ⟨a0, a1, a2, a3, a4, a5, a6, a7⟩ := ka.c8; obtain ⟨h0, h1, h2, h3, h4, h5⟩ := kh.c6;go_simp; (try with_reducible rfl)
 (try simp only [cq])
 refine tkY 4 (some 15) ?_ ?_ ?_
 rotate_left
 · intro w hS0; (try dsimp only at hS0); obtain ⟨kl, ka, kh, _, _⟩ := hS0; obtain ⟨l0, l1, l2, l3, l4, l5, l6, l7⟩ := kl.c8; obtain ⟨a0, a1, a2, a3, a4, a5, a6, a7⟩ := ka.c8; obtain ⟨h0, h1, h2, h3, h4, h5⟩ := kh.c6;go_simp; (try with_reducible rfl)
 (try simp only [cq])
 refine tkY 5 (some 16) ?_ ?_ ?_
 rotate_left
 · intro w hS0; (try dsimp only at hS0); obtain ⟨kl, ka, kh, _, _⟩ := hS0; obtain ⟨l0, l1, l2, l3, l4, l5, l6, l7⟩ := kl.c8; obtain ⟨a0, a1, a2, a3, a4, a5, a6, a7⟩ := ka.c8; obtain ⟨h0, h1, h2, h3, h4, h5⟩ := kh.c6;go_simp; (try with_reducible rfl)
 (try simp only [cq])
 refine tkY 6 (some 17) ?_ ?_ ?_
 rotate_left
 · intro w hS0; (try dsimp only at hS0); obtain ⟨kl, ka, kh, _, _⟩ := hS0; obtain ⟨l0, l1, l2, l3, l4, l5, l6, l7⟩ := kl.c8; obtain ⟨a0, a1, a2, a3, a4, a5, a6, a7⟩ := ka.c8; obtain ⟨h0, h1, h2, h3, h4, h5⟩ := kh.c6;go_simp; (try with_reducible rfl)
 (try simp only [cq])
 refine tkY 8 (some 19) ?_ ?_ ?_
 rotate_left
 · intro w hS0; (try dsimp only at hS0); obtain ⟨kl, ka, kh, _, _⟩ := hS0; obtain ⟨l0, l1, l2, l3, l4, l5, l6, l7⟩ := kl.c8; obtain ⟨a0, a1, a2, a3, a4, a5, a6, a7⟩ := ka.c8; obtain ⟨h0, h1, h2, h3, h4, h5⟩ := kh.c6;go_simp; (try with_reducible rfl)
 (try simp only [cq])
 refine tkY 9 (some 20) ?_ ?_ ?_
 rotate_left
 · intro w hS0; (try dsimp only at hS0); obtain ⟨kl, ka, kh, _, _⟩ := hS0; obtain ⟨l0, l1, l2, l3, l4, l5, l6, l7⟩ := kl.c8; obtain ⟨a0, a1, a2, a3, a4, a5, a6, a7⟩ := ka.c8; obtain ⟨h0, h1, h2, h3, h4, h5⟩ := kh.c6;go_simp; (try with_reducible rfl)
 (try simp only [cq])
 refine tkY 11 (some 22) ?_ ?_ ?_
 rotate_left
 · intro w hS0; (try dsimp only at hS0); obtain ⟨kl, ka, kh, _, _⟩ := hS0; obtain ⟨l0, l1, l2, l3, l4, l5, l6, l7⟩ := kl.c8; obtain ⟨a0, a1, a2, a3, a4, a5, a6, a7⟩ := ka.c8; obtain ⟨h0, h1, h2, h3, h4, h5⟩ := kh.c6;go_simp; (try with_reducible rfl)
 (try simp only [cq])
 refine tkY 12 (some 23) ?_ ?_ ?_
 rotate_left
 · intro w hS0; (try dsimp only at hS0); obtain ⟨kl, ka, kh, _, _⟩ := hS0; obtain ⟨l0, l1, l2, l3, l4, l5, l6, l7⟩ := kl.c8; obtain ⟨a0, a1, a2, a3, a4, a5, a6, a7⟩ := ka.c8; obtain ⟨h0, h1, h2, h3, h4, h5⟩ := kh.c6;go_simp; (try with_reducible rfl)
 (try simp only [cq])
 refine tkY 13 (some 24) ?_ ?_ ?_
 rotate_left
 · intro w hS0; (try dsimp only at hS0); obtain ⟨kl, ka, kh, _, _⟩ := hS0; obtain ⟨l0, l1, l2, l3, l4, l5, l6, l7⟩ := kl.c8; obtain ⟨a0, a1, a2, a3, a4, a5, a6, a7⟩ := ka.c8; obtain ⟨h0, h1, h2, h3, h4, h5⟩ := kh.c6;go_simp; (try with_reducible rfl)
 (try simp only [cq])
 refine tkY 14 (some 25) ?_ ?_ ?_
 rotate_left
 · intro w hS0; (try dsimp only at hS0); obtain ⟨kl, ka, kh, _, _⟩ := hS0; obtain ⟨l0, l1, l2, l3, l4, l5, l6, l7⟩ := kl.c8; obtain ⟨a0, a1, a2, a3, a4, a5, a6, a7⟩ := ka.c8; obtain ⟨h0, h1, h2, h3, h4, h5⟩ := kh.c6;go_simp; (try with_reducible rfl)
 (try simp only [cq])
 refine wpAnyH_ready (rs := [2, 16, 17]) (by kernel_rfl) (by simp) ?_
 refine arc (some 13) (fun K hK => ?_) ?_
 {
 go_simp
 (refine (E1.out _).mono ?_; rintro e w' ⟨rfl, hb⟩)
 refine hK.out _ _ ?_ ?_
 · (exact ⟨hH.1.call hb, hH.2.1.call hb, hH.2.2.1.call hb, hH.2.2.2.1.call hb, bwS hH.2.2.2.2 (Nat.le_refl _) hb⟩)
 (try clear hH); (try clear hb)
 intro hH
 clear hK K
 (try simp only [cq])
 refine wpAnyH_ready (rs := [7, 16, 17]) (by kernel_rfl) (by simp) ?_
 refine arc (some 18) (fun K hK => ?_) ?_
 {
 go_simp
 (refine (O1.out _).mono ?_; rintro e w' ⟨rfl, hb⟩)
 refine hK.out _ _ ?_ ?_
 · (exact ⟨hH.1.call hb, hH.2.1.call hb, hH.2.2.1.call hb, hH.2.2.2.1.call hb, bwS hH.2.2.2.2 (Nat.le_refl _) hb⟩)
 (try clear hH); (try clear hb)
 intro hH
 clear hK K
 (try simp only [cq])
 refine wpAnyH_ready (rs := [10, 16, 17]) (by kernel_rfl) (by simp) ?_
 refine arc (some 21) (fun K hK => ?_) ?_
 {
 go_simp
 (refine (E2.out _).mono ?_; rintro e w' ⟨rfl, hb⟩)
 refine hK.out _ _ ?_ ?_
 · (exact ⟨hH.1.call hb, hH.2.1.call hb, hH.2.2.1.call hb, hH.2.2.2.1.call hb, bwS hH.2.2.2.2 (Nat.le_refl _) hb⟩)
 (try clear hH); (try clear hb)
 intro hH
 clear hK K
 (try simp only [cq])
 refine wpAnyH_ready (rs := [15, 16, 17]) (by kernel_rfl) (by simp) ?_
 refine arc (some 26) (fun K hK => ?_) ?_
 {
 go_simp
 (refine (O2.out _).mono ?_; rintro e w' ⟨rfl, hb⟩)
 refine hK.out _ _ ?_ ?_
 · (exact ⟨hH.1.call hb, hH.2.1.call hb, hH.2.2.1.call hb, hH.2.2.2.1.call hb, bwS hH.2.2.2.2 (Nat.le_refl _) hb⟩)
 (try clear hH); (try clear hb)
 intro hH
 clear hK K
 (try simp only [cq])
 refine wpAnyH_ready (rs := [16, 17]) (by kernel_rfl) (by simp) ?_
 refine arc (some 7) (fun K hK => ?_) ?_
 {
 (have hNbA1 := hH.2.2.2.1.lt; (try simp only [World.drew] at hNbA1))
 go_simp
 first | refine oA hK ?_ (fun hH hA => ?_) | refine oD hK ?_ (fun hH hA => ?_)
 · exact ⟨hH.1.alloc _, hH.2.1.alloc _, hH.2.2.1.alloc _, hH.2.2.2.1.alloc _, bwA hH.2.2.2.2 (Nat.le_refl _) _⟩
 clear hK K
 (try simp only [cq])
 obtain ⟨bA, hbA⟩ : ∃ b, Blk.num hA = b := ⟨_, rfl⟩
 obtain ⟨W, hW⟩ : ∃ V, Blk.wld hA = V := ⟨_, rfl⟩
 simp only [Blk.num] at hbA
 simp only [Blk.wld] at hW
 rw [hW] at hH hA ⊢
 rw [hbA] at hA ⊢
 replace hNbA1 : w.heap.size + 1 + 1 + 1 < bA := (by rw [← hbA]; exact hNbA1)
 clear hW hbA
 have hAbA := hA
 clear hA
 exact X4_0 bA W ⟨hH, hAbA, hNbA1⟩
 }
 refine arc (some 8) (fun K hK => ?_) ?_
 {
 (have hNbE1 := hH.2.2.2.1.lt; (try simp only [World.drew] at hNbE1))
 go_simp
 first | refine oA hK ?_ (fun hH hA => ?_) | refine oD hK ?_ (fun hH hA => ?_)
 · exact ⟨hH.1.alloc _, hH.2.1.alloc _, hH.2.2.1.alloc _, hH.2.2.2.1.alloc _, bwA hH.2.2.2.2 (Nat.le_refl _) _⟩
 clear hK K
 (try simp only [cq])
 obtain ⟨bE, hbA⟩ : ∃ b, Blk.num hA = b := ⟨_, rfl⟩
 obtain ⟨W, hW⟩ : ∃ V, Blk.wld hA = V := ⟨_, rfl⟩
 simp only [Blk.num] at hbA
 simp only [Blk.wld] at hW
 rw [hW] at hH hA ⊢
 rw [hbA] at hA ⊢
 replace hNbE1 : w.heap.size + 1 + 1 + 1 < bE := (by rw [← hbA]; exact hNbE1)
 clear hW hbA
 have hAbE := hA
 clear hA
 exact X4_1 bE W ⟨hH, hAbE, hNbE1⟩
 }
 exact AllReadyH.nil
 }
 refine arc (some 7) (fun K hK => ?_) ?_
 {
 (have hNbA1 := hH.2.2.2.1.lt; (try simp only [World.drew] at hNbA1))
 go_simp
 first | refine oA hK ?_ (fun hH hA => ?_) | refine oD hK ?_ (fun hH hA => ?_)
 · exact ⟨hH.1.alloc _, hH.2.1.alloc _, hH.2.2.1.alloc _, hH.2.2.2.1.alloc _, bwA hH.2.2.2.2 (Nat.le_refl _) _⟩
 clear hK K
 (try simp only [cq])
 obtain ⟨bA, hbA⟩ : ∃ b, Blk.num hA = b := ⟨_, rfl⟩
 obtain ⟨W, hW⟩ : ∃ V, Blk.wld hA = V := ⟨_, rfl⟩
 simp only [Blk.num] at hbA
 simp only [Blk.wld] at hW
 rw [hW] at hH hA ⊢
 rw [hbA] at hA ⊢
 replace hNbA1 : w.heap.size + 1 + 1 + 1 < bA := (by rw [← hbA]; exact hNbA1)
 clear hW hbA
 have hAbA := hA
 clear hA
 exact X3_0 bA W ⟨hH, hAbA, hNbA1⟩
 }
 refine arc (some 8) (fun K hK => ?_) ?_
 {
 (have hNbE1 := hH.2.2.2.1.lt; (try simp only [World.drew] at hNbE1))
 go_simp
 first | refine oA hK ?_ (fun hH hA => ?_) | refine oD hK ?_ (fun hH hA => ?_)
 · exact ⟨hH.1.alloc _, hH.2.1.alloc _, hH.2.2.1.alloc _, hH.2.2.2.1.alloc _, bwA hH.2.2.2.2 (Nat.le_refl _) _⟩
 clear hK K
 (try simp only [cq])
 obtain ⟨bE, hbA⟩ : ∃ b, Blk.num hA = b := ⟨_, rfl⟩
 obtain ⟨W, hW⟩ : ∃ V, Blk.wld hA = V := ⟨_, rfl⟩
 simp only [Blk.num] at hbA
 simp only [Blk.wld] at hW
 rw [hW] at hH hA ⊢
 rw [hbA] at hA ⊢
 replace hNbE1 : w.heap.size + 1 + 1 + 1 < bE := (by rw [← hbA]; exact hNbE1)
 clear hW hbA
 have hAbE := hA
 clear hA
 exact X3_1 bE W ⟨hH, hAbE, hNbE1⟩
 }
 exact AllReadyH.nil
 }
 refine arc (some 7) (fun K hK => ?_) ?_
 {
 (have hNbA1 := hH.2.2.2.1.lt; (try simp only [World.drew] at hNbA1))
 go_simp
 first | refine oA hK ?_ (fun hH hA => ?_) | refine oD hK ?_ (fun hH hA => ?_)
 · exact ⟨hH.1.alloc _, hH.2.1.alloc _, hH.2.2.1.alloc _, hH.2.2.2.1.alloc _, bwA hH.2.2.2.2 (Nat.le_refl _) _⟩
 clear hK K
 (try simp only [cq])
 obtain ⟨bA, hbA⟩ : ∃ b, Blk.num hA = b := ⟨_, rfl⟩
 obtain ⟨W, hW⟩ : ∃ V, Blk.wld hA = V := ⟨_, rfl⟩
 simp only [Blk.num] at hbA
 simp only [Blk.wld] at hW
 rw [hW] at hH hA ⊢
 rw [hbA] at hA ⊢
 replace hNbA1 : w.heap.size + 1 + 1 + 1 < bA := (by rw [← hbA]; exact hNbA1)
 clear hW hbA
 have hAbA := hA
 clear hA
 exact X2_0 bA W ⟨hH, hAbA, hNbA1⟩
 }
 refine arc (some 8) (fun K hK => ?_) ?_
 {
 (have hNbE1 := hH.2.2.2.1.lt; (try simp only [World.drew] at hNbE1))
 go_simp
 first | refine oA hK ?_ (fun hH hA => ?_) | refine oD hK ?_ (fun hH hA => ?_)
 · exact ⟨hH.1.alloc _, hH.2.1.alloc _, hH.2.2.1.alloc _, hH.2.2.2.1.alloc _, bwA hH.2.2.2.2 (Nat.le_refl _) _⟩
 clear hK K
 (try simp only [cq])
 obtain ⟨bE, hbA⟩ : ∃ b, Blk.num hA = b := ⟨_, rfl⟩
 obtain ⟨W, hW⟩ : ∃ V, Blk.wld hA = V := ⟨_, rfl⟩
 simp only [Blk.num] at hbA
 simp only [Blk.wld] at hW
 rw [hW] at hH hA ⊢
 rw [hbA] at hA ⊢
 replace hNbE1 : w.heap.size + 1 + 1 + 1 < bE := (by rw [← hbA]; exact hNbE1)
 clear hW hbA
 have hAbE := hA
 clear hA
 exact X2_1 bE W ⟨hH, hAbE, hNbE1⟩
 }
 exact AllReadyH.nil
 }
 refine arc (some 7) (fun K hK => ?_) ?_
 {
 (have hNbA1 := hH.2.2.2.1.lt; (try simp only [World.drew] at hNbA1))
 go_simp
 first | refine oA hK ?_ (fun hH hA => ?_) | refine oD hK ?_ (fun hH hA => ?_)
 · exact ⟨hH.1.alloc _, hH.2.1.alloc _, hH.2.2.1.alloc _, hH.2.2.2.1.alloc _, bwA hH.2.2.2.2 (Nat.le_refl _) _⟩
 clear hK K
 (try simp only [cq])
 obtain ⟨bA, hbA⟩ : ∃ b, Blk.num hA = b := ⟨_, rfl⟩
 obtain ⟨W, hW⟩ : ∃ V, Blk.wld hA = V := ⟨_, rfl⟩
 simp only [Blk.num] at hbA
 simp only [Blk.wld] at hW
 rw [hW] at hH hA ⊢
 rw [hbA] at hA ⊢
 replace hNbA1 : w.heap.size + 1 + 1 + 1 < bA := (by rw [← hbA]; exact hNbA1)
 clear hW hbA
 have hAbA := hA
 clear hA
 exact X1_0 bA W ⟨hH, hAbA, hNbA1⟩
 }
 refine arc (some 8) (fun K hK => ?_) ?_
 {
 (have hNbE1 := hH.2.2.2.1.lt; (try simp only [World.drew] at hNbE1))
 go_simp
 first | refine oA hK ?_ (fun hH hA => ?_) | refine oD hK ?_ (fun hH hA => ?_)
 · exact ⟨hH.1.alloc _, hH.2.1.alloc _, hH.2.2.1.alloc _, hH.2.2.2.1.alloc _, bwA hH.2.2.2.2 (Nat.le_refl _) _⟩
 clear hK K
 (try simp only [cq])
 obtain ⟨bE, hbA⟩ : ∃ b, Blk.num hA = b := ⟨_, rfl⟩
 obtain ⟨W, hW⟩ : ∃ V, Blk.wld hA = V := ⟨_, rfl⟩
 simp only [Blk.num] at hbA
 simp only [Blk.wld] at hW
 rw [hW] at hH hA ⊢
 rw [hbA] at hA ⊢
 replace hNbE1 : w.heap.size + 1 + 1 + 1 < bE := (by rw [← hbA]; exact hNbE1)
 clear hW hbA
 have hAbE := hA
 clear hA
 exact X1_1 bE W ⟨hH, hAbE, hNbE1⟩
 }
 exact AllReadyH.nil
 }
 refine arc (some 7) (fun K hK => ?_) ?_
 {
 (have hNbA1 := hH.2.2.2.1.lt; (try simp only [World.drew] at hNbA1))
 go_simp
 first | refine oA hK ?_ (fun hH hA => ?_) | refine oD hK ?_ (fun hH hA => ?_)
 · exact ⟨hH.1.alloc _, hH.2.1.alloc _, hH.2.2.1.alloc _, hH.2.2.2.1.alloc _, bwA hH.2.2.2.2 (Nat.le_refl _) _⟩
 clear hK K
 (try simp only [cq])
 obtain ⟨bA, hbA⟩ : ∃ b, Blk.num hA = b := ⟨_, rfl⟩
 obtain ⟨W, hW⟩ : ∃ V, Blk.wld hA = V := ⟨_, rfl⟩
 simp only [Blk.num] at hbA
 simp only [Blk.wld] at hW
 rw [hW] at hH hA ⊢
 rw [hbA] at hA ⊢
 replace hNbA1 : w.heap.size + 1 + 1 + 1 < bA := (by rw [← hbA]; exact hNbA1)
 clear hW hbA
 have hAbA := hA
 clear hA
 exact X0_0 bA W ⟨hH, hAbA, hNbA1⟩
 }
 refine arc (some 8) (fun K hK => ?_) ?_
 {
 (have hNbE1 := hH.2.2.2.1.lt; (try simp only [World.drew] at hNbE1))
 go_simp
 first | refine oA hK ?_ (fun hH hA => ?_) | refine oD hK ?_ (fun hH hA => ?_)
 · exact ⟨hH.1.alloc _, hH.2.1.alloc _, hH.2.2.1.alloc _, hH.2.2.2.1.alloc _, bwA hH.2.2.2.2 (Nat.le_refl _) _⟩
 clear hK K
 (try simp only [cq])
 obtain ⟨bE, hbA⟩ : ∃ b, Blk.num hA = b := ⟨_, rfl⟩
 obtain ⟨W, hW⟩ : ∃ V, Blk.wld hA = V := ⟨_, rfl⟩
 simp only [Blk.num] at hbA
 simp only [Blk.wld] at hW
 rw [hW] at hH hA ⊢
 rw [hbA] at hA ⊢
 replace hNbE1 : w.heap.size + 1 + 1 + 1 < bE := (by rw [← hbA]; exact hNbE1)
 clear hW hbA
 have hAbE := hA
 clear hA
 exact X0_1 bE W ⟨hH, hAbE, hNbE1⟩
 }
 exact AllReadyH.nil
 }
 {
 intro bE W hall
 obtain ⟨hH, hAbE, hNbE1⟩ := hall
 (try dsimp only at hH)
 refine wpAnyH_ready (rs := [2, 16]) (by kernel_rfl) (by simp) ?_
 refine arc (some 13) (fun K hK => ?_) ?_
 {
 go_simp
 (refine (E1.out _).mono ?_; rintro e w' ⟨rfl, hb⟩)
 (replace hAbE := hAbE.call hb)
 refine hK.out _ _ ?_ ?_
 · (exact ⟨hH.1.call hb, hH.2.1.call hb, hH.2.2.1.call hb, hH.2.2.2.1.call hb, bwS hH.2.2.2.2 (Nat.le_refl _) hb⟩)
 (try clear hH); (try clear hb)
 intro hH
 clear hK K
 (try simp only [cq])
 exact X1_1 bE w' ⟨hH, hAbE, hNbE1⟩
 }
 refine arc (some 7) (fun K hK => ?_) ?_
 {
 (have hNbA1 := hH.2.2.2.1.lt; (try simp only [World.drew] at hNbA1))
 have zzbE := hAbE.lt
 go_simp
 first | refine oA hK ?_ (fun hH hA => ?_) | refine oD hK ?_ (fun hH hA => ?_)
 · exact ⟨hH.1.alloc _, hH.2.1.alloc _, hH.2.2.1.alloc _, hH.2.2.2.1.alloc _, bwA hH.2.2.2.2 (Nat.le_refl _) _⟩
 clear hK K
 (try simp only [cq])
 obtain ⟨bA, hbA⟩ : ∃ b, Blk.num hA = b := ⟨_, rfl⟩
 obtain ⟨W, hW⟩ : ∃ V, Blk.wld hA = V := ⟨_, rfl⟩
 simp only [Blk.num] at hbA
 simp only [Blk.wld] at hW
 first | replace hAbE := awB hW hAbE | replace hAbE := awD hW hAbE
 rw [hW] at hH hA ⊢
 rw [hbA] at hA ⊢
 replace hNbA1 : w.heap.size + 1 + 1 + 1 < bA := (by rw [← hbA]; exact hNbA1)
 have hPbAbE : bA ≠ bE := (by (try simp only [World.drew] at zzbE hbA); omega)
 clear hW hbA zzbE
 have hAbA := hA
 clear hA
 exact X0_01 bA bE W ⟨hH, hAbA, hAbE, hNbA1, hNbE1, hPbAbE⟩
 }
 exact AllReadyH.nil
 }
 }
 {
 intro bA W hall
 obtain ⟨hH, hAbA, hNbA1⟩ := hall
 (try dsimp only at hH)
 refine wpAnyH_ready (rs := [2, 17]) (by kernel_rfl) (by simp) ?_
 refine arc (some 13) (fun K hK => ?_) ?_
 {
 go_simp
 (refine (E1.out _).mono ?_; rintro e w' ⟨rfl, hb⟩)
 (replace hAbA := hAbA.call hb)
 refine hK.out _ _ ?_ ?_
 · (exact ⟨hH.1.call hb, hH.2.1.call hb, hH.2.2.1.call hb, hH.2.2.2.1.call hb, bwS hH.2.2.2.2 (Nat.le_refl _) hb⟩)
 (try clear hH); (try clear hb)
 intro hH
 clear hK K
 (try simp only [cq])
 exact X1_0 bA w' ⟨hH, hAbA, hNbA1⟩
 }
 refine arc (some 8) (fun K hK => ?_) ?_
 {
 (have hNbE1 := hH.2.2.2.1.lt; (try simp only [World.drew] at hNbE1))
 have zzbA := hAbA.lt
 go_simp
 first | refine oA hK ?_ (fun hH hA => ?_) | refine oD hK ?_ (fun hH hA => ?_)
 · exact ⟨hH.1.alloc _, hH.2.1.alloc _, hH.2.2.1.alloc _, hH.2.2.2.1.alloc _, bwA hH.2.2.2.2 (Nat.le_refl _) _⟩
 clear hK K
 (try simp only [cq])
 obtain ⟨bE, hbA⟩ : ∃ b, Blk.num hA = b := ⟨_, rfl⟩
 obtain ⟨W, hW⟩ : ∃ V, Blk.wld hA = V := ⟨_, rfl⟩
 simp only [Blk.num] at hbA
 simp only [Blk.wld] at hW
 first | replace hAbA := awB hW hAbA | replace hAbA := awD hW hAbA
 rw [hW] at hH hA ⊢
 rw [hbA] at hA ⊢
 replace hNbE1 : w.heap.size + 1 + 1 + 1 < bE := (by rw [← hbA]; exact hNbE1)
 have hPbAbE : bA ≠ bE := (by (try simp only [World.drew] at zzbA hbA); omega)
 clear hW hbA zzbA
 have hAbE := hA
 clear hA
 exact X0_01 bA bE W ⟨hH, hAbA, hAbE, hNbA1, hNbE1, hPbAbE⟩
 }
 exact AllReadyH.nil
 }
 }
 {
 intro bE W hall
 obtain ⟨hH, hAbE, hNbE1⟩ := hall
 (try dsimp only at hH)
 refine wpAnyH_ready (rs := [7, 16]) (by kernel_rfl) (by simp) ?_
 refine arc (some 18) (fun K hK => ?_) ?_
 {
 go_simp
 (refine (O1.out _).mono ?_; rintro e w' ⟨rfl, hb⟩)
 (replace hAbE := hAbE.call hb)
 refine hK.out _ _ ?_ ?_
 · (exact ⟨hH.1.call hb, hH.2.1.call hb, hH.2.2.1.call hb, hH.2.2.2.1.call hb, bwS hH.2.2.2.2 (Nat.le_refl _) hb⟩)
 (try clear hH); (try clear hb)
 intro hH
 clear hK K
 (try simp only [cq])
 exact X2_1 bE w' ⟨hH, hAbE, hNbE1⟩
 }
 refine arc (some 7) (fun K hK => ?_) ?_
 {
 (have hNbA1 := hH.2.2.2.1.lt; (try simp only [World.drew] at hNbA1))
 have zzbE := hAbE.lt
 go_simp
 first | refine oA hK ?_ (fun hH hA => ?_) | refine oD hK ?_ (fun hH hA => ?_)
 · exact ⟨hH.1.alloc _, hH.2.1.alloc _, hH.2.2.1.alloc _, hH.2.2.2.1.alloc _, bwA hH.2.2.2.2 (Nat.le_refl _) _⟩
 clear hK K
 (try simp only [cq])
 obtain ⟨bA, hbA⟩ : ∃ b, Blk.num hA = b := ⟨_, rfl⟩
 obtain ⟨W, hW⟩ : ∃ V, Blk.wld hA = V := ⟨_, rfl⟩
 simp only [Blk.num] at hbA
 simp only [Blk.wld] at hW
 first | replace hAbE := awB hW hAbE | replace hAbE := awD hW hAbE
 rw [hW] at hH hA ⊢
 rw [hbA] at hA ⊢
 replace hNbA1 : w.heap.size + 1 + 1 + 1 < bA := (by rw [← hbA]; exact hNbA1)
 have hPbAbE : bA ≠ bE := (by (try simp only [World.drew] at zzbE hbA); omega)
 clear hW hbA zzbE
 have hAbA := hA
 clear hA
 exact X1_01 bA bE W ⟨hH, hAbA, hAbE, hNbA1, hNbE1, hPbAbE⟩
 }
 exact AllReadyH.nil
 }
 }
 {
 intro bA W hall
 obtain ⟨hH, hAbA, hNbA1⟩ := hall
 (try dsimp only at hH)
 refine wpAnyH_ready (rs := [7, 17]) (by kernel_rfl) (by simp) ?_
 refine arc (some 18) (fun K hK => ?_) ?_
 {
 go_simp
 (refine (O1.out _).mono ?_; rintro e w' ⟨rfl, hb⟩)
 (replace hAbA := hAbA.call hb)
 refine hK.out _ _ ?_ ?_
 · (exact ⟨hH.1.call hb, hH.2.1.call hb, hH.2.2.1.call hb, hH.2.2.2.1.call hb, bwS hH.2.2.2.2 (Nat.le_refl _) hb⟩)
 (try clear hH); (try clear hb)
 intro hH
 clear hK K
 (try simp only [cq])
 exact X2_0 bA w' ⟨hH, hAbA, hNbA1⟩
 }
 refine arc (some 8) (fun K hK => ?_) ?_
 {
 (have hNbE1 := hH.2.2.2.1.lt; (try simp only [World.drew] at hNbE1))
 have zzbA := hAbA.lt
 go_simp
 first | refine oA hK ?_ (fun hH hA => ?_) | refine oD hK ?_ (fun hH hA => ?_)
 · exact ⟨hH.1.alloc _, hH.2.1.alloc _, hH.2.2.1.alloc _, hH.2.2.2.1.alloc _, bwA hH.2.2.2.2 (Nat.le_refl _) _⟩
 clear hK K
 (try simp only [cq])
 obtain ⟨bE, hbA⟩ : ∃ b, Blk.num hA = b := ⟨_, rfl⟩
 obtain ⟨W, hW⟩ : ∃ V, Blk.wld hA = V := ⟨_, rfl⟩
 simp only [Blk.num] at hbA
 simp only [Blk.wld] at hW
 first | replace hAbA := awB hW hAbA | replace hAbA := awD hW hAbA
 rw [hW] at hH hA ⊢
 rw [hbA] at hA ⊢
 replace hNbE1 : w.heap.size + 1 + 1 + 1 < bE := (by rw [← hbA]; exact hNbE1)
 have hPbAbE : bA ≠ bE := (by (try simp only [World.drew] at zzbA hbA); omega)
 clear hW hbA zzbA
 have hAbE := hA
 clear hA
 exact X1_01 bA bE W ⟨hH, hAbA, hAbE, hNbA1, hNbE1, hPbAbE⟩
 }
 exact AllReadyH.nil
 }
 }
 {
 intro bA bE W hall
 obtain ⟨hH, hAbA, hAbE, hNbA1, hNbE1, hPbAbE⟩ := hall
 (try dsimp only at hH)
 refine wpAnyH_ready (rs := [2]) (by kernel_rfl) (by simp) ?_
 refine arc1 (some 13) fun K hK => ?_
 go_simp
 (refine (E1.out _).mono ?_; rintro e w' ⟨rfl, hb⟩)
 (replace hAbA := hAbA.call hb)
 (replace hAbE := hAbE.call hb)
 refine hK.out _ _ ?_ ?_
 · (exact ⟨hH.1.call hb, hH.2.1.call hb, hH.2.2.1.call hb, hH.2.2.2.1.call hb, bwS hH.2.2.2.2 (Nat.le_refl _) hb⟩)
 (try clear hH); (try clear hb)
 intro hH
 clear hK K
 (try simp only [cq])
 exact X1_01 bA bE w' ⟨hH, hAbA, hAbE, hNbA1, hNbE1, hPbAbE⟩
 }
 }
 {
 intro bE W hall
 obtain ⟨hH, hAbE, hNbE1⟩ := hall
 (try dsimp only at hH)
 refine wpAnyH_ready (rs := [10, 16]) (by kernel_rfl) (by simp) ?_
 refine arc (some 21) (fun K hK => ?_) ?_
 {
 go_simp
 (refine (E2.out _).mono ?_; rintro e w' ⟨rfl, hb⟩)
 (replace hAbE := hAbE.call hb)
 refine hK.out _ _ ?_ ?_
 · (exact ⟨hH.1.call hb, hH.2.1.call hb, hH.2.2.1.call hb, hH.2.2.2.1.call hb, bwS hH.2.2.2.2 (Nat.le_refl _) hb⟩)
 (try clear hH); (try clear hb)
 intro hH
 clear hK K
 (try simp only [cq])
 exact X3_1 bE w' ⟨hH, hAbE, hNbE1⟩
 }
 refine arc (some 7) (fun K hK => ?_) ?_
 {
 (have hNbA1 := hH.2.2.2.1.lt; (try simp only [World.drew] at hNbA1))
 have zzbE := hAbE.lt
 go_simp
 first | refine oA hK ?_ (fun hH hA => ?_) | refine oD hK ?_ (fun hH hA => ?_)
 · exact ⟨hH.1.alloc _, hH.2.1.alloc _, hH.2.2.1.alloc _, hH.2.2.2.1.alloc _, bwA hH.2.2.2.2 (Nat.le_refl _) _⟩
 clear hK K
 (try simp only [cq])
 obtain ⟨bA, hbA⟩ : ∃ b, Blk.num hA = b := ⟨_, rfl⟩
 obtain ⟨W, hW⟩ : ∃ V, Blk.wld hA = V := ⟨_, rfl⟩
 simp only [Blk.num] at hbA
 simp only [Blk.wld] at hW
 first | replace hAbE := awB hW hAbE | replace hAbE := awD hW hAbE
 rw [hW] at hH hA ⊢
 rw [hbA] at hA ⊢
 replace hNbA1 : w.heap.size + 1 + 1 + 1 < bA := (by rw [← hbA]; exact hNbA1)
 have hPbAbE : bA ≠ bE := (by (try simp only [World.drew] at zzbE hbA); omega)
 clear hW hbA zzbE
 have hAbA := hA
 clear hA
 exact X2_01 bA bE W ⟨hH, hAbA, hAbE, hNbA1, hNbE1, hPbAbE⟩
 }
 exact AllReadyH.nil
 }
 }
 {
 intro bA W hall
 obtain ⟨hH, hAbA, hNbA1⟩ := hall
 (try dsimp only at hH)
 refine wpAnyH_ready (rs := [10, 17]) (by kernel_rfl) (by simp) ?_
 refine arc (some 21) (fun K hK => ?_) ?_
 {
 go_simp
 (refine (E2.out _).mono ?_; rintro e w' ⟨rfl, hb⟩)
 (replace hAbA := hAbA.call hb)
 refine hK.out _ _ ?_ ?_
 · (exact ⟨hH.1.call hb, hH.2.1.call hb, hH.2.2.1.call hb, hH.2.2.2.1.call hb, bwS hH.2.2.2.2 (Nat.le_refl _) hb⟩)
 (try clear hH); (try clear hb)
 intro hH
 clear hK K
 (try simp only [cq])
 exact X3_0 bA w' ⟨hH, hAbA, hNbA1⟩
 }
 refine arc (some 8) (fun K hK => ?_) ?_
 {
 (have hNbE1 := hH.2.2.2.1.lt; (try simp only [World.drew] at hNbE1))
 have zzbA := hAbA.lt
 go_simp
 first | refine oA hK ?_ (fun hH hA => ?_) | refine oD hK ?_ (fun hH hA => ?_)
 · exact ⟨hH.1.alloc _, hH.2.1.alloc _, hH.2.2.1.alloc _, hH.2.2.2.1.alloc _, bwA hH.2.2.2.2 (Nat.le_refl _) _⟩
 clear hK K
 (try simp only [cq])
 obtain ⟨bE, hbA⟩ : ∃ b, Blk.num hA = b := ⟨_, rfl⟩
 obtain ⟨W, hW⟩ : ∃ V, Blk.wld hA = V := ⟨_, rfl⟩
 simp only [Blk.num] at hbA
 simp only [Blk.wld] at hW
 first | replace hAbA := awB hW hAbA | replace hAbA := awD hW hAbA
 rw [hW] at hH hA ⊢
 rw [hbA] at hA ⊢
 replace hNbE1 : w.heap.size + 1 + 1 + 1 < bE := (by rw [← hbA]; exact hNbE1)
 have hPbAbE : bA ≠ bE := (by (try simp only [World.drew] at zzbA hbA); omega)
 clear hW hbA zzbA
 have hAbE := hA
 clear hA
 exact X2_01 bA bE W ⟨hH, hAbA, hAbE, hNbA1, hNbE1, hPbAbE⟩
 }
 exact AllReadyH.nil
 }
 }
 {
 intro bA bE W hall
 obtain ⟨hH, hAbA, hAbE, hNbA1, hNbE1, hPbAbE⟩ := hall
 (try dsimp only at hH)
 refine wpAnyH_ready (rs := [7]) (by kernel_rfl) (by simp) ?_
 refine arc1 (some 18) fun K hK => ?_
 go_simp
 (refine (O1.out _).mono ?_; rintro e w' ⟨rfl, hb⟩)
 (replace hAbA := hAbA.call hb)
 (replace hAbE := hAbE.call hb)
 refine hK.out _ _ ?_ ?_
 · (exact ⟨hH.1.call hb, hH.2.1.call hb, hH.2.2.1.call hb, hH.2.2.2.1.call hb, bwS hH.2.2.2.2 (Nat.le_refl _) hb⟩)
 (try clear hH); (try clear hb)
 intro hH
 clear hK K
 (try simp only [cq])
 exact X2_01 bA bE w' ⟨hH, hAbA, hAbE, hNbA1, hNbE1, hPbAbE⟩
 }
 }
 {
 intro bE W hall
 obtain ⟨hH, hAbE, hNbE1⟩ := hall
 (try dsimp only at hH)
 refine wpAnyH_ready (rs := [15, 16]) (by kernel_rfl) (by simp) ?_
 refine arc (some 26) (fun K hK => ?_) ?_
 {
 go_simp
 (refine (O2.out _).mono ?_; rintro e w' ⟨rfl, hb⟩)
 (replace hAbE := hAbE.call hb)
 refine hK.out _ _ ?_ ?_
 · (exact ⟨hH.1.call hb, hH.2.1.call hb, hH.2.2.1.call hb, hH.2.2.2.1.call hb, bwS hH.2.2.2.2 (Nat.le_refl _) hb⟩)
 (try clear hH); (try clear hb)
 intro hH
 clear hK K
 (try simp only [cq])
 exact X4_1 bE w' ⟨hH, hAbE, hNbE1⟩
 }
 refine arc (some 7) (fun K hK => ?_) ?_
 {
 (have hNbA1 := hH.2.2.2.1.lt; (try simp only [World.drew] at hNbA1))
 have zzbE := hAbE.lt
 go_simp
 first | refine oA hK ?_ (fun hH hA => ?_) | refine oD hK ?_ (fun hH hA => ?_)
 · exact ⟨hH.1.alloc _, hH.2.1.alloc _, hH.2.2.1.alloc _, hH.2.2.2.1.alloc _, bwA hH.2.2.2.2 (Nat.le_refl _) _⟩
 clear hK K
 (try simp only [cq])
 obtain ⟨bA, hbA⟩ : ∃ b, Blk.num hA = b := ⟨_, rfl⟩
 obtain ⟨W, hW⟩ : ∃ V, Blk.wld hA = V := ⟨_, rfl⟩
 simp only [Blk.num] at hbA
 simp only [Blk.wld] at hW
 first | replace hAbE := awB hW hAbE | replace hAbE := awD hW hAbE
 rw [hW] at hH hA ⊢
 rw [hbA] at hA ⊢
 replace hNbA1 : w.heap.size + 1 + 1 + 1 < bA := (by rw [← hbA]; exact hNbA1)
 have hPbAbE : bA ≠ bE := (by (try simp only [World.drew] at zzbE hbA); omega)
 clear hW hbA zzbE
 have hAbA := hA
 clear hA
 exact X3_01 bA bE W ⟨hH, hAbA, hAbE, hNbA1, hNbE1, hPbAbE⟩
 }
 exact AllReadyH.nil
 }
 }
 {
 intro bA W hall
 obtain ⟨hH, hAbA, hNbA1⟩ := hall
 (try dsimp only at hH)
 refine wpAnyH_ready (rs := [15, 17]) (by kernel_rfl) (by simp) ?_
 refine arc (some 26) (fun K hK => ?_) ?_
 {
 go_simp
 (refine (O2.out _).mono ?_; rintro e w' ⟨rfl, hb⟩)
 (replace hAbA := hAbA.call hb)
 refine hK.out _ _ ?_ ?_
 · (exact ⟨hH.1.call hb, hH.2.1.call hb, hH.2.2.1.call hb, hH.2.2.2.1.call hb, bwS hH.2.2.2.2 (Nat.le_refl _) hb⟩)
 (try clear hH); (try clear hb)
 intro hH
 clear hK K
 (try simp only [cq])
 exact X4_0 bA w' ⟨hH, hAbA, hNbA1⟩
 }
 refine arc (some 8) (fun K hK => ?_) ?_
 {
 (have hNbE1 := hH.2.2.2.1.lt; (try simp only [World.drew] at hNbE1))
 have zzbA := hAbA.lt
 go_simp
 first | refine oA hK ?_ (fun hH hA => ?_) | refine oD hK ?_ (fun hH hA => ?_)
 · exact ⟨hH.1.alloc _, hH.2.1.alloc _, hH.2.2.1.alloc _, hH.2.2.2.1.alloc _, bwA hH.2.2.2.2 (Nat.le_refl _) _⟩
 clear hK K
 (try simp only [cq])
 obtain ⟨bE, hbA⟩ : ∃ b, Blk.num hA = b := ⟨_, rfl⟩
 obtain ⟨W, hW⟩ : ∃ V, Blk.wld hA = V := ⟨_, rfl⟩
 simp only [Blk.num] at hbA
 simp only [Blk.wld] at hW
 first | replace hAbA := awB hW hAbA | replace hAbA := awD hW hAbA
 rw [hW] at hH hA ⊢
 rw [hbA] at hA ⊢
 replace hNbE1 : w.heap.size + 1 + 1 + 1 < bE := (by rw [← hbA]; exact hNbE1)
 have hPbAbE : bA ≠ bE := (by (try simp only [World.drew] at zzbA hbA); omega)
 clear hW hbA zzbA
 have hAbE := hA
 clear hA
 exact X3_01 bA bE W ⟨hH, hAbA, hAbE, hNbA1, hNbE1, hPbAbE⟩
 }
 exact AllReadyH.nil
 }
 }
 {
 intro bA bE W hall
 obtain ⟨hH, hAbA, hAbE, hNbA1, hNbE1, hPbAbE⟩ := hall
 (try dsimp only at hH)
 refine wpAnyH_ready (rs := [10]) (by kernel_rfl) (by simp) ?_
 refine arc1 (some 21) fun K hK => ?_
 go_simp
 (refine (E2.out _).mono ?_; rintro e w' ⟨rfl, hb⟩)
 (replace hAbA := hAbA.call hb)
 (replace hAbE := hAbE.call hb)
 refine hK.out _ _ ?_ ?_
 · (exact ⟨hH.1.call hb, hH.2.1.call hb, hH.2.2.1.call hb, hH.2.2.2.1.call hb, bwS hH.2.2.2.2 (Nat.le_refl _) hb⟩)
 (try clear hH); (try clear hb)
 intro hH
 clear hK K
 (try simp only [cq])
 exact X3_01 bA bE w' ⟨hH, hAbA, hAbE, hNbA1, hNbE1, hPbAbE⟩
 }
 }
 {
 intro bE W hall
 obtain ⟨hH, hAbE, hNbE1⟩ := hall
 (try dsimp only at hH)
 refine wpAnyH_ready (rs := [16]) (by kernel_rfl) (by simp) ?_
 refine arc1 (some 7) fun K hK => ?_
 (have hNbA1 := hH.2.2.2.1.lt; (try simp only [World.drew] at hNbA1))
 have zzbE := hAbE.lt
 go_simp
 first | refine oA hK ?_ (fun hH hA => ?_) | refine oD hK ?_ (fun hH hA => ?_)
 · exact ⟨hH.1.alloc _, hH.2.1.alloc _, hH.2.2.1.alloc _, hH.2.2.2.1.alloc _, bwA hH.2.2.2.2 (Nat.le_refl _) _⟩
 clear hK K
 (try simp only [cq])
 obtain ⟨bA, hbA⟩ : ∃ b, Blk.num hA = b := ⟨_, rfl⟩
 obtain ⟨W, hW⟩ : ∃ V, Blk.wld hA = V := ⟨_, rfl⟩
 simp only [Blk.num] at hbA
 simp only [Blk.wld] at hW
 first | replace hAbE := awB hW hAbE | replace hAbE := awD hW hAbE
 rw [hW] at hH hA ⊢
 rw [hbA] at hA ⊢
 replace hNbA1 : w.heap.size + 1 + 1 + 1 < bA := (by rw [← hbA]; exact hNbA1)
 have hPbAbE : bA ≠ bE := (by (try simp only [World.drew] at zzbE hbA); omega)
 clear hW hbA zzbE
 have hAbA := hA
 clear hA
 exact X4_01 bA bE W ⟨hH, hAbA, hAbE, hNbA1, hNbE1, hPbAbE⟩
 }
 }
 {
 intro bA W hall
 obtain ⟨hH, hAbA, hNbA1⟩ := hall
 (try dsimp only at hH)
 refine wpAnyH_ready (rs := [17]) (by kernel_rfl) (by simp) ?_
 refine arc1 (some 8) fun K hK => ?_
 (have hNbE1 := hH.2.2.2.1.lt; (try simp only [World.drew] at hNbE1))
 have zzbA := hAbA.lt
 go_simp
 first | refine oA hK ?_ (fun hH hA => ?_) | refine oD hK ?_ (fun hH hA => ?_)
 · exact ⟨hH.1.alloc _, hH.2.1.alloc _, hH.2.2.1.alloc _, hH.2.2.2.1.alloc _, bwA hH.2.2.2.2 (Nat.le_refl _) _⟩
 clear hK K
 (try simp only [cq])
 obtain ⟨bE, hbA⟩ : ∃ b, Blk.num hA = b := ⟨_, rfl⟩
 obtain ⟨W, hW⟩ : ∃ V, Blk.wld hA = V := ⟨_, rfl⟩
 simp only [Blk.num] at hbA
 simp only [Blk.wld] at hW
 first | replace hAbA := awB hW hAbA | replace hAbA := awD hW hAbA
 rw [hW] at hH hA ⊢
 rw [hbA] at hA ⊢
 replace hNbE1 : w.heap.size + 1 + 1 + 1 < bE := (by rw [← hbA]; exact hNbE1)
 have hPbAbE : bA ≠ bE := (by (try simp only [World.drew] at zzbA hbA); omega)
 clear hW hbA zzbA
 have hAbE := hA
 clear hA
 exact X4_01 bA bE W ⟨hH, hAbA, hAbE, hNbA1, hNbE1, hPbAbE⟩
 }
 }
 {
 intro bA bE W hall
 obtain ⟨hH, hAbA, hAbE, hNbA1, hNbE1, hPbAbE⟩ := hall
 (try dsimp only at hH)
 refine wpAnyH_ready (rs := [15]) (by kernel_rfl) (by simp) ?_
 refine arc1 (some 26) fun K hK => ?_
 go_simp
 (refine (O2.out _).mono ?_; rintro e w' ⟨rfl, hb⟩)
 (replace hAbA := hAbA.call hb)
 (replace hAbE := hAbE.call hb)
 refine hK.out _ _ ?_ ?_
 · (exact ⟨hH.1.call hb, hH.2.1.call hb, hH.2.2.1.call hb, hH.2.2.2.1.call hb, bwS hH.2.2.2.2 (Nat.le_refl _) hb⟩)
 (try clear hH); (try clear hb)
 intro hH
 clear hK K
 (try simp only [cq])
 exact X4_01 bA bE w' ⟨hH, hAbA, hAbE, hNbA1, hNbE1, hPbAbE⟩
 }
 }
 {
 intro bA bE W hall
 obtain ⟨hH, hAbA, hAbE, hNbA1, hNbE1, hPbAbE⟩ := hall
 (try dsimp only at hH)
 refine wpAnyH_ready (rs := [18]) (by kernel_rfl) (by simp) ?_
 refine arc1 none fun K hK => ?_
 obtain ⟨r0, r1, r2, r3⟩ := hAbA.c4
 have fr0 := hAbA.free 0
 have fr1 := hAbA.free 1
 have fr2 := hAbA.free 2
 have fr3 := hAbA.free 3
 have zR := hAbA.lt
 replace hAbE := hAbE.other4 (c := bA) (by omega) (.int .i64 o.b0) (.int .i64 o.w0) (.int .i64 o.q0) (.int .i64 o.s0)
 replace hAbA := hAbA.set4 (.int .i64 o.b0) (.int .i64 o.w0) (.int .i64 o.q0) (.int .i64 o.s0)
 go_simp
 refine hK.out _ _ ?_ ?_
 · with_reducible exact ⟨hH.1.other4 (by omega) _ _ _ _, hH.2.1.other4 (by omega) _ _ _ _, hH.2.2.1.other4 (by omega) _ _ _ _, hH.2.2.2.1.other4 (by omega) _ _ _ _, below_set4 hH.2.2.2.2 (by omega) _ _ _ _⟩
 (try clear hH); (try clear hb)
 intro hH
 clear r0 fr0 r1 fr1 r2 fr2 r3 fr3 zR
 clear hK K
 (try simp only [cq])
 refine wpAnyH_ready (rs := [19]) (by kernel_rfl) (by simp) ?_
 refine arc1 none fun K hK => ?_
 obtain ⟨r0, r1, r2, r3⟩ := hAbE.c4
 have fr0 := hAbE.free 0
 have fr1 := hAbE.free 1
 have fr2 := hAbE.free 2
 have fr3 := hAbE.free 3
 have zR := hAbE.lt
 replace hAbA := hAbA.other4 (c := bE) (by omega) (.int .i64 o.b1) (.int .i64 o.w1) (.int .i64 o.q1) (.int .i64 o.s1)
 replace hAbE := hAbE.set4 (.int .i64 o.b1) (.int .i64 o.w1) (.int .i64 o.q1) (.int .i64 o.s1)
 go_simp
 refine hK.out _ _ ?_ ?_
 · with_reducible exact ⟨hH.1.other4 (by omega) _ _ _ _, hH.2.1.other4 (by omega) _ _ _ _, hH.2.2.1.other4 (by omega) _ _ _ _, hH.2.2.2.1.other4 (by omega) _ _ _ _, below_set4 hH.2.2.2.2 (by omega) _ _ _ _⟩
 (try clear hH); (try clear hb)
 intro hH
 clear r0 fr0 r1 fr1 r2 fr2 r3 fr3 zR
 clear hK K
 (try simp only [cq])
 refine wpAnyH_done (by kernel_rfl) ?_ _
 (try dsimp only [Act.put])
 (try simp only [cq])
 go_wp2_with fail
 go_meet
 exact ⟨bA, bE, rfl, rfl, hAbA, hAbE, hNbA1, hNbE1, hH.1, hH.2.1, hH.2.2.1, hH.2.2.2.1, hH.2.2.2.2⟩
 } )
  case rest =>
    obtain ⟨bC, bE, rfl, rfl, mC, mE, nC, nE, j0, j1, j2, j3, jB⟩ := hcut
    clear E1 E2 O1 O2
    obtain ⟨l0, l1, l2, l3, l4, l5, l6, l7⟩ := j0.c8
    obtain ⟨u0, u1, u2, u3, u4, u5⟩ := j2.c6
    obtain ⟨a0, a1, a2, a3⟩ := mC.c4
    obtain ⟨h0, h1, h2, h3⟩ := mE.c4
    have zL := j0.lt
    have zD := j2.lt
    have zC := mC.lt
    have zE := mE.lt
    go_wp2_with fail
    refine (C1.out _ jB).mono ?_
    rintro e w9 ⟨rfl, hb⟩
    clear l0 l1 l2 l3 l4 l5 l6 l7 u0 u1 u2 u3 u4 u5 a0 a1 a2 a3 h0 h1 h2 h3 zL zD zC zE C1
    replace jB := bwS jB (Nat.le_refl _) hb
    replace j3 := j3.call hb
    clear hb
    obtain ⟨x0, x1, x2, x3, x4, x5, x6, x7, hR⟩ := j3
    obtain ⟨r0, r1, r2, r3, r4, r5, r6, r7⟩ := hR.c8
    have f0 := hR.free 0
    have f1 := hR.free 1
    have f2 := hR.free 2
    have f3 := hR.free 3
    have f4 := hR.free 4
    have f5 := hR.free 5
    have f6 := hR.free 6
    have f7 := hR.free 7
    have zR := hR.lt
    have HQ := Lib.hid (hR.set8 (.int .i64 y.b0) (.int .i64 y.b1) (.int .i64 y.w0) (.int .i64 y.w1) (.int .i64 y.q0) (.int .i64 y.q1) (.int .i64 y.s0) (.int .i64 y.s1)).c8
    go_wp2
    obtain ⟨z0, z1, z2, z3, z4, z5, z6, z7⟩ := HQ.out
    refine bodyPost_ret (v := .agg #[.int .i64 y.b0, .int .i64 y.b1, .int .i64 y.w0, .int .i64 y.w1, .int .i64 y.q0, .int .i64 y.q1, .int .i64 y.s0, .int .i64 y.s1]) (by simp [results, Tryz.results64, go_sem, z0, z1, z2, z3, z4, z5, z6, z7]) rfl ⟨rfl, ?_⟩
    iterate 8 refine Below.setCell ?_ (by simp; omega) _
    exact jB

set_option maxRecDepth 100000 in
set_option maxHeartbeats 16000000 in
theorem rstep_warm (l : Lw) (x : Ic) (d : Dy) (va : Option Addr) (vcap : Nat) (w : World) (hl : l.Ok) (hn : l.n ≤ 1000000) (hv : CovAt w (.slice va l.n vcap) l.n l.D l.P0 l.P1) (hx : x.In 400000000) (hd : d.Ok) (hc : d.c1 < 0) (y : Ic) (hy : y = warmI l (openI l x d) (-d.c1) (-d.c0)) :
    Calls Tryz.prog 64 #[.agg #[.int .i64 l.gr, .int .i64 l.la, (.slice va l.n vcap), .int .i64 l.m0, .int .i64 l.m1, .int .i64 l.so, .int .i64 l.h0, .int .i64 l.h1], .agg #[.int .i64 x.b0, .int .i64 x.b1, .int .i64 x.w0, .int .i64 x.w1, .int .i64 x.q0, .int .i64 x.q1, .int .i64 x.s0, .int .i64 x.s1], .agg #[.int .i64 d.c0, .int .i64 d.c1, .int .i64 d.f0, .int .i64 d.f1, .int .i64 d.wa, .bool d.cl]] w fun e w' => e = .returned (.agg #[.int .i64 y.b0, .int .i64 y.b1, .int .i64 y.w0, .int .i64 y.w1, .int .i64 y.q0, .int .i64 y.q1, .int .i64 y.s0, .int .i64 y.s1]) ∧ Below w.heap.size w w' := by
  obtain ⟨o, ho⟩ : ∃ o, openI l x d = o := ⟨_, rfl⟩
  have hoi := open_in hl hx hd
  rw [ho] at hoi hy
  have d0 := hd.c0
  have d1 := hd.c1
  have d2 := hd.c2
  have d3 := hd.f0
  have d4 := hd.f1
  have d5 := hd.f2
  obtain ⟨b1, b2, b3, b4, b5, b6, b7, b8, b9, b10, b11, b12, b13, b14, b15, b16⟩ := hx
  have E1 : Hid (∀ W, Calls Tryz.prog 84 #[.agg #[.int .i64 x.b0, .int .i64 x.b1, .int .i64 x.w0, .int .i64 x.w1, .int .i64 x.q0, .int .i64 x.q1, .int .i64 x.s0, .int .i64 x.s1]] W fun e w' => e = .returned (.agg #[.int .i64 x.b0, .int .i64 x.w0, .int .i64 x.q0, .int .i64 x.s0]) ∧ Below W.heap.size W w') := fun W => rleast_any x W
  have E2 : Hid (∀ W, Calls Tryz.prog 85 #[.agg #[.int .i64 x.b0, .int .i64 x.b1, .int .i64 x.w0, .int .i64 x.w1, .int .i64 x.q0, .int .i64 x.q1, .int .i64 x.s0, .int .i64 x.s1]] W fun e w' => e = .returned (.agg #[.int .i64 x.b1, .int .i64 x.w1, .int .i64 x.q1, .int .i64 x.s1]) ∧ Below W.heap.size W w') := fun W => rgreatest_any x W
  have O1 : Hid (∀ W, Calls Tryz.prog 83 #[.agg #[.int .i64 l.gr, .int .i64 l.la, (.slice va l.n vcap), .int .i64 l.m0, .int .i64 l.m1, .int .i64 l.so, .int .i64 l.h0, .int .i64 l.h1], .agg #[.int .i64 x.b0, .int .i64 x.w0, .int .i64 x.q0, .int .i64 x.s0], .agg #[.int .i64 d.c0, .int .i64 d.c1, .int .i64 d.f0, .int .i64 d.f1, .int .i64 d.wa, .bool d.cl], .int .i64 d.f0] W fun e w' => e = .returned (.agg #[.int .i64 o.b0, .int .i64 o.w0, .int .i64 o.q0, .int .i64 o.s0]) ∧ Below W.heap.size W w') := fun W => by
    rw [← ho]
    exact ropened_any l va vcap x.b0 x.w0 x.q0 x.s0 d d.f0 W hl (by omega) (by omega) (by omega) (by omega) (by omega) (by omega) hd.w1
  have O2 : Hid (∀ W, Calls Tryz.prog 83 #[.agg #[.int .i64 l.gr, .int .i64 l.la, (.slice va l.n vcap), .int .i64 l.m0, .int .i64 l.m1, .int .i64 l.so, .int .i64 l.h0, .int .i64 l.h1], .agg #[.int .i64 x.b1, .int .i64 x.w1, .int .i64 x.q1, .int .i64 x.s1], .agg #[.int .i64 d.c0, .int .i64 d.c1, .int .i64 d.f0, .int .i64 d.f1, .int .i64 d.wa, .bool d.cl], .int .i64 d.f1] W fun e w' => e = .returned (.agg #[.int .i64 o.b1, .int .i64 o.w1, .int .i64 o.q1, .int .i64 o.s1]) ∧ Below W.heap.size W w') := fun W => by
    rw [← ho]
    exact ropened_any l va vcap x.b1 x.w1 x.q1 x.s1 d d.f1 W hl (by omega) (by omega) (by omega) (by omega) (by omega) (by omega) hd.w1
  have C1 : Hid (∀ W, Calls Tryz.prog 87 #[.agg #[.int .i64 l.gr, .int .i64 l.la, (.slice va l.n vcap), .int .i64 l.m0, .int .i64 l.m1, .int .i64 l.so, .int .i64 l.h0, .int .i64 l.h1], .agg #[.int .i64 o.b0, .int .i64 o.w0, .int .i64 o.q0, .int .i64 o.s0], .agg #[.int .i64 o.b1, .int .i64 o.w1, .int .i64 o.q1, .int .i64 o.s1], .int .i64 (-d.c1), .int .i64 (-d.c0)] W fun e w' => e = .returned (.agg #[.int .i64 y.b0, .int .i64 y.b1, .int .i64 y.w0, .int .i64 y.w1, .int .i64 y.q0, .int .i64 y.q1, .int .i64 y.s0, .int .i64 y.s1]) ∧ Below W.heap.size W w') := fun W => rwarm_any l va vcap o (-d.c1) (-d.c0) W hl hoi (by omega) (by omega) (by omega) (by omega) y hy
  have n0 : IntKind.i64.wrap (-d.c0) = -d.c0 := IntWalk.i64_in _ (by omega)
  have n1 : IntKind.i64.wrap (-d.c1) = -d.c1 := IntWalk.i64_in _ (by omega)
  clear hv hl hn hd ho hoi hy b1 b2 b3 b4 b5 b6 b7 b8 b9 b10 b11 b12 b13 b14 b15 b16 d3 d4 d5
  have j0 : Blk ((((w.alloc (.cells #[.int .i64 l.gr, .int .i64 l.la, .slice va l.n vcap, .int .i64 l.m0, .int .i64 l.m1, .int .i64 l.so, .int .i64 l.h0, .int .i64 l.h1] 26)).alloc (.cells #[.int .i64 x.b0, .int .i64 x.b1, .int .i64 x.w0, .int .i64 x.w1, .int .i64 x.q0, .int .i64 x.q1, .int .i64 x.s0, .int .i64 x.s1] 28)).alloc (.cells #[.int .i64 d.c0, .int .i64 d.c1, .int .i64 d.f0, .int .i64 d.f1, .int .i64 d.wa, .bool d.cl] 58)).alloc (.cells #[.int .i64 0, .int .i64 0, .int .i64 0, .int .i64 0, .int .i64 0, .int .i64 0, .int .i64 0, .int .i64 0] 28)) w.heap.size #[.int .i64 l.gr, .int .i64 l.la, .slice va l.n vcap, .int .i64 l.m0, .int .i64 l.m1, .int .i64 l.so, .int .i64 l.h0, .int .i64 l.h1] 26 := (((Blk.new w _ _).alloc _).alloc _).alloc _
  have j1 : Blk ((((w.alloc (.cells #[.int .i64 l.gr, .int .i64 l.la, .slice va l.n vcap, .int .i64 l.m0, .int .i64 l.m1, .int .i64 l.so, .int .i64 l.h0, .int .i64 l.h1] 26)).alloc (.cells #[.int .i64 x.b0, .int .i64 x.b1, .int .i64 x.w0, .int .i64 x.w1, .int .i64 x.q0, .int .i64 x.q1, .int .i64 x.s0, .int .i64 x.s1] 28)).alloc (.cells #[.int .i64 d.c0, .int .i64 d.c1, .int .i64 d.f0, .int .i64 d.f1, .int .i64 d.wa, .bool d.cl] 58)).alloc (.cells #[.int .i64 0, .int .i64 0, .int .i64 0, .int .i64 0, .int .i64 0, .int .i64 0, .int .i64 0, .int .i64 0] 28)) (w.heap.size + 1) #[.int .i64 x.b0, .int .i64 x.b1, .int .i64 x.w0, .int .i64 x.w1, .int .i64 x.q0, .int .i64 x.q1, .int .i64 x.s0, .int .i64 x.s1] 28 := ((Blk.new1 w _ _ _).alloc _).alloc _
  have j2 : Blk ((((w.alloc (.cells #[.int .i64 l.gr, .int .i64 l.la, .slice va l.n vcap, .int .i64 l.m0, .int .i64 l.m1, .int .i64 l.so, .int .i64 l.h0, .int .i64 l.h1] 26)).alloc (.cells #[.int .i64 x.b0, .int .i64 x.b1, .int .i64 x.w0, .int .i64 x.w1, .int .i64 x.q0, .int .i64 x.q1, .int .i64 x.s0, .int .i64 x.s1] 28)).alloc (.cells #[.int .i64 d.c0, .int .i64 d.c1, .int .i64 d.f0, .int .i64 d.f1, .int .i64 d.wa, .bool d.cl] 58)).alloc (.cells #[.int .i64 0, .int .i64 0, .int .i64 0, .int .i64 0, .int .i64 0, .int .i64 0, .int .i64 0, .int .i64 0] 28)) (w.heap.size + 1 + 1) #[.int .i64 d.c0, .int .i64 d.c1, .int .i64 d.f0, .int .i64 d.f1, .int .i64 d.wa, .bool d.cl] 58 := (Blk.new2 w _ _ _ _).alloc _
  have j3 : Eight ((((w.alloc (.cells #[.int .i64 l.gr, .int .i64 l.la, .slice va l.n vcap, .int .i64 l.m0, .int .i64 l.m1, .int .i64 l.so, .int .i64 l.h0, .int .i64 l.h1] 26)).alloc (.cells #[.int .i64 x.b0, .int .i64 x.b1, .int .i64 x.w0, .int .i64 x.w1, .int .i64 x.q0, .int .i64 x.q1, .int .i64 x.s0, .int .i64 x.s1] 28)).alloc (.cells #[.int .i64 d.c0, .int .i64 d.c1, .int .i64 d.f0, .int .i64 d.f1, .int .i64 d.wa, .bool d.cl] 58)).alloc (.cells #[.int .i64 0, .int .i64 0, .int .i64 0, .int .i64 0, .int .i64 0, .int .i64 0, .int .i64 0, .int .i64 0] 28)) (w.heap.size + 1 + 1 + 1) 28 := ⟨_, _, _, _, _, _, _, _, Blk.new3 w (.cells #[.int .i64 l.gr, .int .i64 l.la, .slice va l.n vcap, .int .i64 l.m0, .int .i64 l.m1, .int .i64 l.so, .int .i64 l.h0, .int .i64 l.h1] 26) (.cells #[.int .i64 x.b0, .int .i64 x.b1, .int .i64 x.w0, .int .i64 x.w1, .int .i64 x.q0, .int .i64 x.q1, .int .i64 x.s0, .int .i64 x.s1] 28) (.cells #[.int .i64 d.c0, .int .i64 d.c1, .int .i64 d.f0, .int .i64 d.f1, .int .i64 d.wa, .bool d.cl] 58) #[.int .i64 0, .int .i64 0, .int .i64 0, .int .i64 0, .int .i64 0, .int .i64 0, .int .i64 0, .int .i64 0] 28⟩
  have jB : Below w.heap.size w ((((w.alloc (.cells #[.int .i64 l.gr, .int .i64 l.la, .slice va l.n vcap, .int .i64 l.m0, .int .i64 l.m1, .int .i64 l.so, .int .i64 l.h0, .int .i64 l.h1] 26)).alloc (.cells #[.int .i64 x.b0, .int .i64 x.b1, .int .i64 x.w0, .int .i64 x.w1, .int .i64 x.q0, .int .i64 x.q1, .int .i64 x.s0, .int .i64 x.s1] 28)).alloc (.cells #[.int .i64 d.c0, .int .i64 d.c1, .int .i64 d.f0, .int .i64 d.f1, .int .i64 d.wa, .bool d.cl] 58)).alloc (.cells #[.int .i64 0, .int .i64 0, .int .i64 0, .int .i64 0, .int .i64 0, .int .i64 0, .int .i64 0, .int .i64 0] 28)) := by (repeat (first | exact Below.refl _ _ | assumption | refine Below.drew ?_ | refine Below.drewN ?_ _ | refine blT ?_ | refine blU ?_))
  go_enter Tryz.func64, Tryz.ntmps64
  go_upto_region 1 with fail
  generalize ((((w.alloc (.cells #[.int .i64 l.gr, .int .i64 l.la, .slice va l.n vcap, .int .i64 l.m0, .int .i64 l.m1, .int .i64 l.so, .int .i64 l.h0, .int .i64 l.h1] 26)).alloc (.cells #[.int .i64 x.b0, .int .i64 x.b1, .int .i64 x.w0, .int .i64 x.w1, .int .i64 x.q0, .int .i64 x.q1, .int .i64 x.s0, .int .i64 x.s1] 28)).alloc (.cells #[.int .i64 d.c0, .int .i64 d.c1, .int .i64 d.f0, .int .i64 d.f1, .int .i64 d.wa, .bool d.cl] 58)).alloc (.cells #[.int .i64 0, .int .i64 0, .int .i64 0, .int .i64 0, .int .i64 0, .int .i64 0, .int .i64 0, .int .i64 0] 28)) = V at j0 j1 j2 j3 jB ⊢
  go_upto_region 1 with fail
  go_cut [7, 8] (fun s7 s8 wx => ∃ bA bE : Nat, s7 = .pointer (some ⟨bA, 0, none⟩) ∧ s8 = .pointer (some ⟨bE, 0, none⟩) ∧ Blk wx bA #[.int .i64 o.b0, .int .i64 o.w0, .int .i64 o.q0, .int .i64 o.s0] 117 ∧ Blk wx bE #[.int .i64 o.b1, .int .i64 o.w1, .int .i64 o.q1, .int .i64 o.s1] 117 ∧ w.heap.size + 1 + 1 + 1 < bA ∧ w.heap.size + 1 + 1 + 1 < bE ∧ Blk wx (w.heap.size) #[.int .i64 l.gr, .int .i64 l.la, .slice va l.n vcap, .int .i64 l.m0, .int .i64 l.m1, .int .i64 l.so, .int .i64 l.h0, .int .i64 l.h1] 26 ∧ Blk wx (w.heap.size + 1) #[.int .i64 x.b0, .int .i64 x.b1, .int .i64 x.w0, .int .i64 x.w1, .int .i64 x.q0, .int .i64 x.q1, .int .i64 x.s0, .int .i64 x.s1] 28 ∧ Blk wx (w.heap.size + 1 + 1) #[.int .i64 d.c0, .int .i64 d.c1, .int .i64 d.f0, .int .i64 d.f1, .int .i64 d.wa, .bool d.cl] 58 ∧ Eight wx (w.heap.size + 1 + 1 + 1) 28 ∧ Below w.heap.size w wx)
  case first =>
    (
 let S9 : World → Prop := (fun w' => Blk w' (w.heap.size) #[.int .i64 l.gr, .int .i64 l.la, .slice va l.n vcap, .int .i64 l.m0, .int .i64 l.m1, .int .i64 l.so, .int .i64 l.h0, .int .i64 l.h1] 26 ∧ Blk w' (w.heap.size + 1) #[.int .i64 x.b0, .int .i64 x.b1, .int .i64 x.w0, .int .i64 x.w1, .int .i64 x.q0, .int .i64 x.q1, .int .i64 x.s0, .int .i64 x.s1] 28 ∧ Blk w' (w.heap.size + 1 + 1) #[.int .i64 d.c0, .int .i64 d.c1, .int .i64 d.f0, .int .i64 d.f1, .int .i64 d.wa, .bool d.cl] 58 ∧ Eight w' (w.heap.size + 1 + 1 + 1) 28 ∧ Below w.heap.size w w')
 refine wp_region_held_drew (S := S9) (by kernel_rfl) ?_ (fun hH => ?_)
 · (try dsimp only); (exact ⟨j0.drew, j1.drew, j2.drew, j3, jB.drew⟩)
 apply share0_2 (fun (bA bE : Nat) (W : World) => S9 W ∧ Blk W bA #[.int .i64 0, .int .i64 0, .int .i64 0, .int .i64 0] 117 ∧ Blk W bE #[.int .i64 0, .int .i64 0, .int .i64 0, .int .i64 0] 117 ∧ (w.heap.size + 1 + 1 + 1 < bA) ∧ (w.heap.size + 1 + 1 + 1 < bE) ∧ (bA ≠ bE))
 {
 intro X4_01
 apply share0_2 (fun (bA bE : Nat) (W : World) => S9 W ∧ Blk W bA #[.int .i64 0, .int .i64 0, .int .i64 0, .int .i64 0] 117 ∧ Blk W bE #[.int .i64 0, .int .i64 0, .int .i64 0, .int .i64 0] 117 ∧ (w.heap.size + 1 + 1 + 1 < bA) ∧ (w.heap.size + 1 + 1 + 1 < bE) ∧ (bA ≠ bE))
 {
 intro X3_01
 apply share0_1 (fun (bA : Nat) (W : World) => S9 W ∧ Blk W bA #[.int .i64 0, .int .i64 0, .int .i64 0, .int .i64 0] 117 ∧ (w.heap.size + 1 + 1 + 1 < bA))
 {
 intro X4_0
 apply share0_1 (fun (bE : Nat) (W : World) => S9 W ∧ Blk W bE #[.int .i64 0, .int .i64 0, .int .i64 0, .int .i64 0] 117 ∧ (w.heap.size + 1 + 1 + 1 < bE))
 {
 intro X4_1
 apply share0_2 (fun (bA bE : Nat) (W : World) => S9 W ∧ Blk W bA #[.int .i64 0, .int .i64 0, .int .i64 0, .int .i64 0] 117 ∧ Blk W bE #[.int .i64 0, .int .i64 0, .int .i64 0, .int .i64 0] 117 ∧ (w.heap.size + 1 + 1 + 1 < bA) ∧ (w.heap.size + 1 + 1 + 1 < bE) ∧ (bA ≠ bE))
 {
 intro X2_01
 apply share0_1 (fun (bA : Nat) (W : World) => S9 W ∧ Blk W bA #[.int .i64 0, .int .i64 0, .int .i64 0, .int .i64 0] 117 ∧ (w.heap.size + 1 + 1 + 1 < bA))
 {
 intro X3_0
 apply share0_1 (fun (bE : Nat) (W : World) => S9 W ∧ Blk W bE #[.int .i64 0, .int .i64 0, .int .i64 0, .int .i64 0] 117 ∧ (w.heap.size + 1 + 1 + 1 < bE))
 {
 intro X3_1
 apply share0_2 (fun (bA bE : Nat) (W : World) => S9 W ∧ Blk W bA #[.int .i64 0, .int .i64 0, .int .i64 0, .int .i64 0] 117 ∧ Blk W bE #[.int .i64 0, .int .i64 0, .int .i64 0, .int .i64 0] 117 ∧ (w.heap.size + 1 + 1 + 1 < bA) ∧ (w.heap.size + 1 + 1 + 1 < bE) ∧ (bA ≠ bE))
 {
 intro X1_01
 apply share0_1 (fun (bA : Nat) (W : World) => S9 W ∧ Blk W bA #[.int .i64 0, .int .i64 0, .int .i64 0, .int .i64 0] 117 ∧ (w.heap.size + 1 + 1 + 1 < bA))
 {
 intro X2_0
 apply share0_1 (fun (bE : Nat) (W : World) => S9 W ∧ Blk W bE #[.int .i64 0, .int .i64 0, .int .i64 0, .int .i64 0] 117 ∧ (w.heap.size + 1 + 1 + 1 < bE))
 {
 intro X2_1
 apply share0_2 (fun (bA bE : Nat) (W : World) => S9 W ∧ Blk W bA #[.int .i64 0, .int .i64 0, .int .i64 0, .int .i64 0] 117 ∧ Blk W bE #[.int .i64 0, .int .i64 0, .int .i64 0, .int .i64 0] 117 ∧ (w.heap.size + 1 + 1 + 1 < bA) ∧ (w.heap.size + 1 + 1 + 1 < bE) ∧ (bA ≠ bE))
 {
 intro X0_01
 apply share0_1 (fun (bA : Nat) (W : World) => S9 W ∧ Blk W bA #[.int .i64 0, .int .i64 0, .int .i64 0, .int .i64 0] 117 ∧ (w.heap.size + 1 + 1 + 1 < bA))
 {
 intro X1_0
 apply share0_1 (fun (bE : Nat) (W : World) => S9 W ∧ Blk W bE #[.int .i64 0, .int .i64 0, .int .i64 0, .int .i64 0] 117 ∧ (w.heap.size + 1 + 1 + 1 < bE))
 {
 intro X1_1
 apply share0_1 (fun (bA : Nat) (W : World) => S9 W ∧ Blk W bA #[.int .i64 0, .int .i64 0, .int .i64 0, .int .i64 0] 117 ∧ (w.heap.size + 1 + 1 + 1 < bA))
 {
 intro X0_0
 apply share0_1 (fun (bE : Nat) (W : World) => S9 W ∧ Blk W bE #[.int .i64 0, .int .i64 0, .int .i64 0, .int .i64 0] 117 ∧ (w.heap.size + 1 + 1 + 1 < bE))
 {
 intro X0_1
 refine tkY 0 (some 11) ?_ ?_ ?_
 rotate_left
 · intro w hS0; (try dsimp only at hS0); obtain ⟨kl, ka, kh, _, _⟩ := hS0; obtain ⟨l0, l1, l2, l3, l4, l5, l6, l7⟩ := kl.c8; obtain ⟨a0, a1, a2, a3, a4, a5, a6, a7⟩ := ka.c8; obtain ⟨h0, h1, h2, h3, h4, h5⟩ := kh.c6;go_simp; (try with_reducible rfl)
 (try simp only [cq])
 refine tkY 1 (some 12) ?_ ?_ ?_
 rotate_left
 · intro w hS0; (try dsimp only at hS0); obtain ⟨kl, ka, kh, _, _⟩ := hS0; obtain ⟨l0, l1, l2, l3, l4, l5, l6, l7⟩ := kl.c8; obtain ⟨a0, a1, a2, a3, a4, a5, a6, a7⟩ := ka.c8; obtain ⟨h0, h1, h2, h3, h4, h5⟩ := kh.c6;go_simp; (try with_reducible rfl)
 (try simp only [cq])
 refine tkY 3 (some 14) ?_ ?_ ?_
 rotate_left
 · intro w hS0; (try dsimp only at hS0); obtain ⟨kl, ka, kh, _, _⟩ := hS0; obtain ⟨l0, l1, l2, l3, l4, l5, l6, l7⟩ := kl.c8; obtain ⟨a0, a1, a2, a3, a4, a5, a6, a7⟩ := ka.c8; obtain ⟨h0, h1, h2, h3, h4, h5⟩ := kh.c6;go_simp; (try with_reducible rfl)
 (try simp only [cq])
 refine tkY 4 (some 15) ?_ ?_ ?_
 rotate_left
 · intro w hS0; (try dsimp only at hS0); obtain ⟨kl, ka, kh, _, _⟩ := hS0; obtain ⟨l0, l1, l2, l3, l4, l5, l6, l7⟩ := kl.c8; obtain ⟨a0, a1, a2, a3, a4, a5, a6, a7⟩ := ka.c8; obtain ⟨h0, h1, h2, h3, h4, h5⟩ := kh.c6;go_simp; (try with_reducible rfl)
 (try simp only [cq])
 refine tkY 5 (some 16) ?_ ?_ ?_
 rotate_left
 · intro w hS0; (try dsimp only at hS0); obtain ⟨kl, ka, kh, _, _⟩ := hS0; obtain ⟨l0, l1, l2, l3, l4, l5, l6, l7⟩ := kl.c8; obtain ⟨a0, a1, a2, a3, a4, a5, a6, a7⟩ := ka.c8; obtain ⟨h0, h1, h2, h3, h4, h5⟩ := kh.c6;go_simp; (try with_reducible rfl)
 (try simp only [cq])
 refine tkY 6 (some 17) ?_ ?_ ?_
 rotate_left
 · intro w hS0; (try dsimp only at hS0); obtain ⟨kl, ka, kh, _, _⟩ := hS0; obtain ⟨l0, l1, l2, l3, l4, l5, l6, l7⟩ := kl.c8; obtain ⟨a0, a1, a2, a3, a4, a5, a6, a7⟩ := ka.c8; obtain ⟨h0, h1, h2, h3, h4, h5⟩ := kh.c6;go_simp; (try with_reducible rfl)
 (try simp only [cq])
 refine tkY 8 (some 19) ?_ ?_ ?_
 rotate_left
 · intro w hS0; (try dsimp only at hS0); obtain ⟨kl, ka, kh, _, _⟩ := hS0; obtain ⟨l0, l1, l2, l3, l4, l5, l6, l7⟩ := kl.c8; obtain ⟨a0, a1, a2, a3, a4, a5, a6, a7⟩ := ka.c8; obtain ⟨h0, h1, h2, h3, h4, h5⟩ := kh.c6;go_simp; (try with_reducible rfl)
 (try simp only [cq])
 refine tkY 9 (some 20) ?_ ?_ ?_
 rotate_left
 · intro w hS0; (try dsimp only at hS0); obtain ⟨kl, ka, kh, _, _⟩ := hS0; obtain ⟨l0, l1, l2, l3, l4, l5, l6, l7⟩ := kl.c8; obtain ⟨a0, a1, a2, a3, a4, a5, a6, a7⟩ := ka.c8; obtain ⟨h0, h1, h2, h3, h4, h5⟩ := kh.c6;go_simp; (try with_reducible rfl)
 (try simp only [cq])
 refine tkY 11 (some 22) ?_ ?_ ?_
 rotate_left
 · intro w hS0; (try dsimp only at hS0); obtain ⟨kl, ka, kh, _, _⟩ := hS0; obtain ⟨l0, l1, l2, l3, l4, l5, l6, l7⟩ := kl.c8; obtain ⟨a0, a1, a2, a3, a4, a5, a6, a7⟩ := ka.c8; obtain ⟨h0, h1, h2, h3, h4, h5⟩ := kh.c6;go_simp; (try with_reducible rfl)
 (try simp only [cq])
 refine tkY 12 (some 23) ?_ ?_ ?_
 rotate_left
 · intro w hS0; (try dsimp only at hS0); obtain ⟨kl, ka, kh, _, _⟩ := hS0; obtain ⟨l0, l1, l2, l3, l4, l5, l6, l7⟩ := kl.c8; obtain ⟨a0, a1, a2, a3, a4, a5, a6, a7⟩ := ka.c8; obtain ⟨h0, h1, h2, h3, h4, h5⟩ := kh.c6;go_simp; (try with_reducible rfl)
 (try simp only [cq])
 refine tkY 13 (some 24) ?_ ?_ ?_
 rotate_left
 · intro w hS0; (try dsimp only at hS0); obtain ⟨kl, ka, kh, _, _⟩ := hS0; obtain ⟨l0, l1, l2, l3, l4, l5, l6, l7⟩ := kl.c8; obtain ⟨a0, a1, a2, a3, a4, a5, a6, a7⟩ := ka.c8; obtain ⟨h0, h1, h2, h3, h4, h5⟩ := kh.c6;go_simp; (try with_reducible rfl)
 (try simp only [cq])
 refine tkY 14 (some 25) ?_ ?_ ?_
 rotate_left
 · intro w hS0; (try dsimp only at hS0); obtain ⟨kl, ka, kh, _, _⟩ := hS0; obtain ⟨l0, l1, l2, l3, l4, l5, l6, l7⟩ := kl.c8; obtain ⟨a0, a1, a2, a3, a4, a5, a6, a7⟩ := ka.c8; obtain ⟨h0, h1, h2, h3, h4, h5⟩ := kh.c6;go_simp; (try with_reducible rfl)
 (try simp only [cq])
 refine wpAnyH_ready (rs := [2, 16, 17]) (by kernel_rfl) (by simp) ?_
 refine arc (some 13) (fun K hK => ?_) ?_
 {
 go_simp
 (refine (E1.out _).mono ?_; rintro e w' ⟨rfl, hb⟩)
 refine hK.out _ _ ?_ ?_
 · (exact ⟨hH.1.call hb, hH.2.1.call hb, hH.2.2.1.call hb, hH.2.2.2.1.call hb, bwS hH.2.2.2.2 (Nat.le_refl _) hb⟩)
 (try clear hH); (try clear hb)
 intro hH
 clear hK K
 (try simp only [cq])
 refine wpAnyH_ready (rs := [7, 16, 17]) (by kernel_rfl) (by simp) ?_
 refine arc (some 18) (fun K hK => ?_) ?_
 {
 go_simp
 (refine (O1.out _).mono ?_; rintro e w' ⟨rfl, hb⟩)
 refine hK.out _ _ ?_ ?_
 · (exact ⟨hH.1.call hb, hH.2.1.call hb, hH.2.2.1.call hb, hH.2.2.2.1.call hb, bwS hH.2.2.2.2 (Nat.le_refl _) hb⟩)
 (try clear hH); (try clear hb)
 intro hH
 clear hK K
 (try simp only [cq])
 refine wpAnyH_ready (rs := [10, 16, 17]) (by kernel_rfl) (by simp) ?_
 refine arc (some 21) (fun K hK => ?_) ?_
 {
 go_simp
 (refine (E2.out _).mono ?_; rintro e w' ⟨rfl, hb⟩)
 refine hK.out _ _ ?_ ?_
 · (exact ⟨hH.1.call hb, hH.2.1.call hb, hH.2.2.1.call hb, hH.2.2.2.1.call hb, bwS hH.2.2.2.2 (Nat.le_refl _) hb⟩)
 (try clear hH); (try clear hb)
 intro hH
 clear hK K
 (try simp only [cq])
 refine wpAnyH_ready (rs := [15, 16, 17]) (by kernel_rfl) (by simp) ?_
 refine arc (some 26) (fun K hK => ?_) ?_
 {
 go_simp
 (refine (O2.out _).mono ?_; rintro e w' ⟨rfl, hb⟩)
 refine hK.out _ _ ?_ ?_
 · (exact ⟨hH.1.call hb, hH.2.1.call hb, hH.2.2.1.call hb, hH.2.2.2.1.call hb, bwS hH.2.2.2.2 (Nat.le_refl _) hb⟩)
 (try clear hH); (try clear hb)
 intro hH
 clear hK K
 (try simp only [cq])
 refine wpAnyH_ready (rs := [16, 17]) (by kernel_rfl) (by simp) ?_
 refine arc (some 7) (fun K hK => ?_) ?_
 {
 (have hNbA1 := hH.2.2.2.1.lt; (try simp only [World.drew] at hNbA1))
 go_simp
 first | refine oA hK ?_ (fun hH hA => ?_) | refine oD hK ?_ (fun hH hA => ?_)
 · exact ⟨hH.1.alloc _, hH.2.1.alloc _, hH.2.2.1.alloc _, hH.2.2.2.1.alloc _, bwA hH.2.2.2.2 (Nat.le_refl _) _⟩
 clear hK K
 (try simp only [cq])
 obtain ⟨bA, hbA⟩ : ∃ b, Blk.num hA = b := ⟨_, rfl⟩
 obtain ⟨W, hW⟩ : ∃ V, Blk.wld hA = V := ⟨_, rfl⟩
 simp only [Blk.num] at hbA
 simp only [Blk.wld] at hW
 rw [hW] at hH hA ⊢
 rw [hbA] at hA ⊢
 replace hNbA1 : w.heap.size + 1 + 1 + 1 < bA := (by rw [← hbA]; exact hNbA1)
 clear hW hbA
 have hAbA := hA
 clear hA
 exact X4_0 bA W ⟨hH, hAbA, hNbA1⟩
 }
 refine arc (some 8) (fun K hK => ?_) ?_
 {
 (have hNbE1 := hH.2.2.2.1.lt; (try simp only [World.drew] at hNbE1))
 go_simp
 first | refine oA hK ?_ (fun hH hA => ?_) | refine oD hK ?_ (fun hH hA => ?_)
 · exact ⟨hH.1.alloc _, hH.2.1.alloc _, hH.2.2.1.alloc _, hH.2.2.2.1.alloc _, bwA hH.2.2.2.2 (Nat.le_refl _) _⟩
 clear hK K
 (try simp only [cq])
 obtain ⟨bE, hbA⟩ : ∃ b, Blk.num hA = b := ⟨_, rfl⟩
 obtain ⟨W, hW⟩ : ∃ V, Blk.wld hA = V := ⟨_, rfl⟩
 simp only [Blk.num] at hbA
 simp only [Blk.wld] at hW
 rw [hW] at hH hA ⊢
 rw [hbA] at hA ⊢
 replace hNbE1 : w.heap.size + 1 + 1 + 1 < bE := (by rw [← hbA]; exact hNbE1)
 clear hW hbA
 have hAbE := hA
 clear hA
 exact X4_1 bE W ⟨hH, hAbE, hNbE1⟩
 }
 exact AllReadyH.nil
 }
 refine arc (some 7) (fun K hK => ?_) ?_
 {
 (have hNbA1 := hH.2.2.2.1.lt; (try simp only [World.drew] at hNbA1))
 go_simp
 first | refine oA hK ?_ (fun hH hA => ?_) | refine oD hK ?_ (fun hH hA => ?_)
 · exact ⟨hH.1.alloc _, hH.2.1.alloc _, hH.2.2.1.alloc _, hH.2.2.2.1.alloc _, bwA hH.2.2.2.2 (Nat.le_refl _) _⟩
 clear hK K
 (try simp only [cq])
 obtain ⟨bA, hbA⟩ : ∃ b, Blk.num hA = b := ⟨_, rfl⟩
 obtain ⟨W, hW⟩ : ∃ V, Blk.wld hA = V := ⟨_, rfl⟩
 simp only [Blk.num] at hbA
 simp only [Blk.wld] at hW
 rw [hW] at hH hA ⊢
 rw [hbA] at hA ⊢
 replace hNbA1 : w.heap.size + 1 + 1 + 1 < bA := (by rw [← hbA]; exact hNbA1)
 clear hW hbA
 have hAbA := hA
 clear hA
 exact X3_0 bA W ⟨hH, hAbA, hNbA1⟩
 }
 refine arc (some 8) (fun K hK => ?_) ?_
 {
 (have hNbE1 := hH.2.2.2.1.lt; (try simp only [World.drew] at hNbE1))
 go_simp
 first | refine oA hK ?_ (fun hH hA => ?_) | refine oD hK ?_ (fun hH hA => ?_)
 · exact ⟨hH.1.alloc _, hH.2.1.alloc _, hH.2.2.1.alloc _, hH.2.2.2.1.alloc _, bwA hH.2.2.2.2 (Nat.le_refl _) _⟩
 clear hK K
 (try simp only [cq])
 obtain ⟨bE, hbA⟩ : ∃ b, Blk.num hA = b := ⟨_, rfl⟩
 obtain ⟨W, hW⟩ : ∃ V, Blk.wld hA = V := ⟨_, rfl⟩
 simp only [Blk.num] at hbA
 simp only [Blk.wld] at hW
 rw [hW] at hH hA ⊢
 rw [hbA] at hA ⊢
 replace hNbE1 : w.heap.size + 1 + 1 + 1 < bE := (by rw [← hbA]; exact hNbE1)
 clear hW hbA
 have hAbE := hA
 clear hA
 exact X3_1 bE W ⟨hH, hAbE, hNbE1⟩
 }
 exact AllReadyH.nil
 }
 refine arc (some 7) (fun K hK => ?_) ?_
 {
 (have hNbA1 := hH.2.2.2.1.lt; (try simp only [World.drew] at hNbA1))
 go_simp
 first | refine oA hK ?_ (fun hH hA => ?_) | refine oD hK ?_ (fun hH hA => ?_)
 · exact ⟨hH.1.alloc _, hH.2.1.alloc _, hH.2.2.1.alloc _, hH.2.2.2.1.alloc _, bwA hH.2.2.2.2 (Nat.le_refl _) _⟩
 clear hK K
 (try simp only [cq])
 obtain ⟨bA, hbA⟩ : ∃ b, Blk.num hA = b := ⟨_, rfl⟩
 obtain ⟨W, hW⟩ : ∃ V, Blk.wld hA = V := ⟨_, rfl⟩
 simp only [Blk.num] at hbA
 simp only [Blk.wld] at hW
 rw [hW] at hH hA ⊢
 rw [hbA] at hA ⊢
 replace hNbA1 : w.heap.size + 1 + 1 + 1 < bA := (by rw [← hbA]; exact hNbA1)
 clear hW hbA
 have hAbA := hA
 clear hA
 exact X2_0 bA W ⟨hH, hAbA, hNbA1⟩
 }
 refine arc (some 8) (fun K hK => ?_) ?_
 {
 (have hNbE1 := hH.2.2.2.1.lt; (try simp only [World.drew] at hNbE1))
 go_simp
 first | refine oA hK ?_ (fun hH hA => ?_) | refine oD hK ?_ (fun hH hA => ?_)
 · exact ⟨hH.1.alloc _, hH.2.1.alloc _, hH.2.2.1.alloc _, hH.2.2.2.1.alloc _, bwA hH.2.2.2.2 (Nat.le_refl _) _⟩
 clear hK K
 (try simp only [cq])
 obtain ⟨bE, hbA⟩ : ∃ b, Blk.num hA = b := ⟨_, rfl⟩
 obtain ⟨W, hW⟩ : ∃ V, Blk.wld hA = V := ⟨_, rfl⟩
 simp only [Blk.num] at hbA
 simp only [Blk.wld] at hW
 rw [hW] at hH hA ⊢
 rw [hbA] at hA ⊢
 replace hNbE1 : w.heap.size + 1 + 1 + 1 < bE := (by rw [← hbA]; exact hNbE1)
 clear hW hbA
 have hAbE := hA
 clear hA
 exact X2_1 bE W ⟨hH, hAbE, hNbE1⟩
 }
 exact AllReadyH.nil
 }
 refine arc (some 7) (fun K hK => ?_) ?_
 {
 (have hNbA1 := hH.2.2.2.1.lt; (try simp only [World.drew] at hNbA1))
 go_simp
 first | refine oA hK ?_ (fun hH hA => ?_) | refine oD hK ?_ (fun hH hA => ?_)
 · exact ⟨hH.1.alloc _, hH.2.1.alloc _, hH.2.2.1.alloc _, hH.2.2.2.1.alloc _, bwA hH.2.2.2.2 (Nat.le_refl _) _⟩
 clear hK K
 (try simp only [cq])
 obtain ⟨bA, hbA⟩ : ∃ b, Blk.num hA = b := ⟨_, rfl⟩
 obtain ⟨W, hW⟩ : ∃ V, Blk.wld hA = V := ⟨_, rfl⟩
 simp only [Blk.num] at hbA
 simp only [Blk.wld] at hW
 rw [hW] at hH hA ⊢
 rw [hbA] at hA ⊢
 replace hNbA1 : w.heap.size + 1 + 1 + 1 < bA := (by rw [← hbA]; exact hNbA1)
 clear hW hbA
 have hAbA := hA
 clear hA
 exact X1_0 bA W ⟨hH, hAbA, hNbA1⟩
 }
 refine arc (some 8) (fun K hK => ?_) ?_
 {
 (have hNbE1 := hH.2.2.2.1.lt; (try simp only [World.drew] at hNbE1))
 go_simp
 first | refine oA hK ?_ (fun hH hA => ?_) | refine oD hK ?_ (fun hH hA => ?_)
 · exact ⟨hH.1.alloc _, hH.2.1.alloc _, hH.2.2.1.alloc _, hH.2.2.2.1.alloc _, bwA hH.2.2.2.2 (Nat.le_refl _) _⟩
 clear hK K
 (try simp only [cq])
 obtain ⟨bE, hbA⟩ : ∃ b, Blk.num hA = b := ⟨_, rfl⟩
 obtain ⟨W, hW⟩ : ∃ V, Blk.wld hA = V := ⟨_, rfl⟩
 simp only [Blk.num] at hbA
 simp only [Blk.wld] at hW
 rw [hW] at hH hA ⊢
 rw [hbA] at hA ⊢
 replace hNbE1 : w.heap.size + 1 + 1 + 1 < bE := (by rw [← hbA]; exact hNbE1)
 clear hW hbA
 have hAbE := hA
 clear hA
 exact X1_1 bE W ⟨hH, hAbE, hNbE1⟩
 }
 exact AllReadyH.nil
 }
 refine arc (some 7) (fun K hK => ?_) ?_
 {
 (have hNbA1 := hH.2.2.2.1.lt; (try simp only [World.drew] at hNbA1))
 go_simp
 first | refine oA hK ?_ (fun hH hA => ?_) | refine oD hK ?_ (fun hH hA => ?_)
 · exact ⟨hH.1.alloc _, hH.2.1.alloc _, hH.2.2.1.alloc _, hH.2.2.2.1.alloc _, bwA hH.2.2.2.2 (Nat.le_refl _) _⟩
 clear hK K
 (try simp only [cq])
 obtain ⟨bA, hbA⟩ : ∃ b, Blk.num hA = b := ⟨_, rfl⟩
 obtain ⟨W, hW⟩ : ∃ V, Blk.wld hA = V := ⟨_, rfl⟩
 simp only [Blk.num] at hbA
 simp only [Blk.wld] at hW
 rw [hW] at hH hA ⊢
 rw [hbA] at hA ⊢
 replace hNbA1 : w.heap.size + 1 + 1 + 1 < bA := (by rw [← hbA]; exact hNbA1)
 clear hW hbA
 have hAbA := hA
 clear hA
 exact X0_0 bA W ⟨hH, hAbA, hNbA1⟩
 }
 refine arc (some 8) (fun K hK => ?_) ?_
 {
 (have hNbE1 := hH.2.2.2.1.lt; (try simp only [World.drew] at hNbE1))
 go_simp
 first | refine oA hK ?_ (fun hH hA => ?_) | refine oD hK ?_ (fun hH hA => ?_)
 · exact ⟨hH.1.alloc _, hH.2.1.alloc _, hH.2.2.1.alloc _, hH.2.2.2.1.alloc _, bwA hH.2.2.2.2 (Nat.le_refl _) _⟩
 clear hK K
 (try simp only [cq])
 obtain ⟨bE, hbA⟩ : ∃ b, Blk.num hA = b := ⟨_, rfl⟩
 obtain ⟨W, hW⟩ : ∃ V, Blk.wld hA = V := ⟨_, rfl⟩
 simp only [Blk.num] at hbA
 simp only [Blk.wld] at hW
 rw [hW] at hH hA ⊢
 rw [hbA] at hA ⊢
 replace hNbE1 : w.heap.size + 1 + 1 + 1 < bE := (by rw [← hbA]; exact hNbE1)
 clear hW hbA
 have hAbE := hA
 clear hA
 exact X0_1 bE W ⟨hH, hAbE, hNbE1⟩
 }
 exact AllReadyH.nil
 }
 {
 intro bE W hall
 obtain ⟨hH, hAbE, hNbE1⟩ := hall
 (try dsimp only at hH)
 refine wpAnyH_ready (rs := [2, 16]) (by kernel_rfl) (by simp) ?_
 refine arc (some 13) (fun K hK => ?_) ?_
 {
 go_simp
 (refine (E1.out _).mono ?_; rintro e w' ⟨rfl, hb⟩)
 (replace hAbE := hAbE.call hb)
 refine hK.out _ _ ?_ ?_
 · (exact ⟨hH.1.call hb, hH.2.1.call hb, hH.2.2.1.call hb, hH.2.2.2.1.call hb, bwS hH.2.2.2.2 (Nat.le_refl _) hb⟩)
 (try clear hH); (try clear hb)
 intro hH
 clear hK K
 (try simp only [cq])
 exact X1_1 bE w' ⟨hH, hAbE, hNbE1⟩
 }
 refine arc (some 7) (fun K hK => ?_) ?_
 {
 (have hNbA1 := hH.2.2.2.1.lt; (try simp only [World.drew] at hNbA1))
 have zzbE := hAbE.lt
 go_simp
 first | refine oA hK ?_ (fun hH hA => ?_) | refine oD hK ?_ (fun hH hA => ?_)
 · exact ⟨hH.1.alloc _, hH.2.1.alloc _, hH.2.2.1.alloc _, hH.2.2.2.1.alloc _, bwA hH.2.2.2.2 (Nat.le_refl _) _⟩
 clear hK K
 (try simp only [cq])
 obtain ⟨bA, hbA⟩ : ∃ b, Blk.num hA = b := ⟨_, rfl⟩
 obtain ⟨W, hW⟩ : ∃ V, Blk.wld hA = V := ⟨_, rfl⟩
 simp only [Blk.num] at hbA
 simp only [Blk.wld] at hW
 first | replace hAbE := awB hW hAbE | replace hAbE := awD hW hAbE
 rw [hW] at hH hA ⊢
 rw [hbA] at hA ⊢
 replace hNbA1 : w.heap.size + 1 + 1 + 1 < bA := (by rw [← hbA]; exact hNbA1)
 have hPbAbE : bA ≠ bE := (by (try simp only [World.drew] at zzbE hbA); omega)
 clear hW hbA zzbE
 have hAbA := hA
 clear hA
 exact X0_01 bA bE W ⟨hH, hAbA, hAbE, hNbA1, hNbE1, hPbAbE⟩
 }
 exact AllReadyH.nil
 }
 }
 {
 intro bA W hall
 obtain ⟨hH, hAbA, hNbA1⟩ := hall
 (try dsimp only at hH)
 refine wpAnyH_ready (rs := [2, 17]) (by kernel_rfl) (by simp) ?_
 refine arc (some 13) (fun K hK => ?_) ?_
 {
 go_simp
 (refine (E1.out _).mono ?_; rintro e w' ⟨rfl, hb⟩)
 (replace hAbA := hAbA.call hb)
 refine hK.out _ _ ?_ ?_
 · (exact ⟨hH.1.call hb, hH.2.1.call hb, hH.2.2.1.call hb, hH.2.2.2.1.call hb, bwS hH.2.2.2.2 (Nat.le_refl _) hb⟩)
 (try clear hH); (try clear hb)
 intro hH
 clear hK K
 (try simp only [cq])
 exact X1_0 bA w' ⟨hH, hAbA, hNbA1⟩
 }
 refine arc (some 8) (fun K hK => ?_) ?_
 {
 (have hNbE1 := hH.2.2.2.1.lt; (try simp only [World.drew] at hNbE1))
 have zzbA := hAbA.lt
 go_simp
 first | refine oA hK ?_ (fun hH hA => ?_) | refine oD hK ?_ (fun hH hA => ?_)
 · exact ⟨hH.1.alloc _, hH.2.1.alloc _, hH.2.2.1.alloc _, hH.2.2.2.1.alloc _, bwA hH.2.2.2.2 (Nat.le_refl _) _⟩
 clear hK K
 (try simp only [cq])
 obtain ⟨bE, hbA⟩ : ∃ b, Blk.num hA = b := ⟨_, rfl⟩
 obtain ⟨W, hW⟩ : ∃ V, Blk.wld hA = V := ⟨_, rfl⟩
 simp only [Blk.num] at hbA
 simp only [Blk.wld] at hW
 first | replace hAbA := awB hW hAbA | replace hAbA := awD hW hAbA
 rw [hW] at hH hA ⊢
 rw [hbA] at hA ⊢
 replace hNbE1 : w.heap.size + 1 + 1 + 1 < bE := (by rw [← hbA]; exact hNbE1)
 have hPbAbE : bA ≠ bE := (by (try simp only [World.drew] at zzbA hbA); omega)
 clear hW hbA zzbA
 have hAbE := hA
 clear hA
 exact X0_01 bA bE W ⟨hH, hAbA, hAbE, hNbA1, hNbE1, hPbAbE⟩
 }
 exact AllReadyH.nil
 }
 }
 {
 intro bE W hall
 obtain ⟨hH, hAbE, hNbE1⟩ := hall
 (try dsimp only at hH)
 refine wpAnyH_ready (rs := [7, 16]) (by kernel_rfl) (by simp) ?_
 refine arc (some 18) (fun K hK => ?_) ?_
 {
 go_simp
 (refine (O1.out _).mono ?_; rintro e w' ⟨rfl, hb⟩)
 (replace hAbE := hAbE.call hb)
 refine hK.out _ _ ?_ ?_
 · (exact ⟨hH.1.call hb, hH.2.1.call hb, hH.2.2.1.call hb, hH.2.2.2.1.call hb, bwS hH.2.2.2.2 (Nat.le_refl _) hb⟩)
 (try clear hH); (try clear hb)
 intro hH
 clear hK K
 (try simp only [cq])
 exact X2_1 bE w' ⟨hH, hAbE, hNbE1⟩
 }
 refine arc (some 7) (fun K hK => ?_) ?_
 {
 (have hNbA1 := hH.2.2.2.1.lt; (try simp only [World.drew] at hNbA1))
 have zzbE := hAbE.lt
 go_simp
 first | refine oA hK ?_ (fun hH hA => ?_) | refine oD hK ?_ (fun hH hA => ?_)
 · exact ⟨hH.1.alloc _, hH.2.1.alloc _, hH.2.2.1.alloc _, hH.2.2.2.1.alloc _, bwA hH.2.2.2.2 (Nat.le_refl _) _⟩
 clear hK K
 (try simp only [cq])
 obtain ⟨bA, hbA⟩ : ∃ b, Blk.num hA = b := ⟨_, rfl⟩
 obtain ⟨W, hW⟩ : ∃ V, Blk.wld hA = V := ⟨_, rfl⟩
 simp only [Blk.num] at hbA
 simp only [Blk.wld] at hW
 first | replace hAbE := awB hW hAbE | replace hAbE := awD hW hAbE
 rw [hW] at hH hA ⊢
 rw [hbA] at hA ⊢
 replace hNbA1 : w.heap.size + 1 + 1 + 1 < bA := (by rw [← hbA]; exact hNbA1)
 have hPbAbE : bA ≠ bE := (by (try simp only [World.drew] at zzbE hbA); omega)
 clear hW hbA zzbE
 have hAbA := hA
 clear hA
 exact X1_01 bA bE W ⟨hH, hAbA, hAbE, hNbA1, hNbE1, hPbAbE⟩
 }
 exact AllReadyH.nil
 }
 }
 {
 intro bA W hall
 obtain ⟨hH, hAbA, hNbA1⟩ := hall
 (try dsimp only at hH)
 refine wpAnyH_ready (rs := [7, 17]) (by kernel_rfl) (by simp) ?_
 refine arc (some 18) (fun K hK => ?_) ?_
 {
 go_simp
 (refine (O1.out _).mono ?_; rintro e w' ⟨rfl, hb⟩)
 (replace hAbA := hAbA.call hb)
 refine hK.out _ _ ?_ ?_
 · (exact ⟨hH.1.call hb, hH.2.1.call hb, hH.2.2.1.call hb, hH.2.2.2.1.call hb, bwS hH.2.2.2.2 (Nat.le_refl _) hb⟩)
 (try clear hH); (try clear hb)
 intro hH
 clear hK K
 (try simp only [cq])
 exact X2_0 bA w' ⟨hH, hAbA, hNbA1⟩
 }
 refine arc (some 8) (fun K hK => ?_) ?_
 {
 (have hNbE1 := hH.2.2.2.1.lt; (try simp only [World.drew] at hNbE1))
 have zzbA := hAbA.lt
 go_simp
 first | refine oA hK ?_ (fun hH hA => ?_) | refine oD hK ?_ (fun hH hA => ?_)
 · exact ⟨hH.1.alloc _, hH.2.1.alloc _, hH.2.2.1.alloc _, hH.2.2.2.1.alloc _, bwA hH.2.2.2.2 (Nat.le_refl _) _⟩
 clear hK K
 (try simp only [cq])
 obtain ⟨bE, hbA⟩ : ∃ b, Blk.num hA = b := ⟨_, rfl⟩
 obtain ⟨W, hW⟩ : ∃ V, Blk.wld hA = V := ⟨_, rfl⟩
 simp only [Blk.num] at hbA
 simp only [Blk.wld] at hW
 first | replace hAbA := awB hW hAbA | replace hAbA := awD hW hAbA
 rw [hW] at hH hA ⊢
 rw [hbA] at hA ⊢
 replace hNbE1 : w.heap.size + 1 + 1 + 1 < bE := (by rw [← hbA]; exact hNbE1)
 have hPbAbE : bA ≠ bE := (by (try simp only [World.drew] at zzbA hbA); omega)
 clear hW hbA zzbA
 have hAbE := hA
 clear hA
 exact X1_01 bA bE W ⟨hH, hAbA, hAbE, hNbA1, hNbE1, hPbAbE⟩
 }
 exact AllReadyH.nil
 }
 }
 {
 intro bA bE W hall
 obtain ⟨hH, hAbA, hAbE, hNbA1, hNbE1, hPbAbE⟩ := hall
 (try dsimp only at hH)
 refine wpAnyH_ready (rs := [2]) (by kernel_rfl) (by simp) ?_
 refine arc1 (some 13) fun K hK => ?_
 go_simp
 (refine (E1.out _).mono ?_; rintro e w' ⟨rfl, hb⟩)
 (replace hAbA := hAbA.call hb)
 (replace hAbE := hAbE.call hb)
 refine hK.out _ _ ?_ ?_
 · (exact ⟨hH.1.call hb, hH.2.1.call hb, hH.2.2.1.call hb, hH.2.2.2.1.call hb, bwS hH.2.2.2.2 (Nat.le_refl _) hb⟩)
 (try clear hH); (try clear hb)
 intro hH
 clear hK K
 (try simp only [cq])
 exact X1_01 bA bE w' ⟨hH, hAbA, hAbE, hNbA1, hNbE1, hPbAbE⟩
 }
 }
 {
 intro bE W hall
 obtain ⟨hH, hAbE, hNbE1⟩ := hall
 (try dsimp only at hH)
 refine wpAnyH_ready (rs := [10, 16]) (by kernel_rfl) (by simp) ?_
 refine arc (some 21) (fun K hK => ?_) ?_
 {
 go_simp
 (refine (E2.out _).mono ?_; rintro e w' ⟨rfl, hb⟩)
 (replace hAbE := hAbE.call hb)
 refine hK.out _ _ ?_ ?_
 · (exact ⟨hH.1.call hb, hH.2.1.call hb, hH.2.2.1.call hb, hH.2.2.2.1.call hb, bwS hH.2.2.2.2 (Nat.le_refl _) hb⟩)
 (try clear hH); (try clear hb)
 intro hH
 clear hK K
 (try simp only [cq])
 exact X3_1 bE w' ⟨hH, hAbE, hNbE1⟩
 }
 refine arc (some 7) (fun K hK => ?_) ?_
 {
 (have hNbA1 := hH.2.2.2.1.lt; (try simp only [World.drew] at hNbA1))
 have zzbE := hAbE.lt
 go_simp
 first | refine oA hK ?_ (fun hH hA => ?_) | refine oD hK ?_ (fun hH hA => ?_)
 · exact ⟨hH.1.alloc _, hH.2.1.alloc _, hH.2.2.1.alloc _, hH.2.2.2.1.alloc _, bwA hH.2.2.2.2 (Nat.le_refl _) _⟩
 clear hK K
 (try simp only [cq])
 obtain ⟨bA, hbA⟩ : ∃ b, Blk.num hA = b := ⟨_, rfl⟩
 obtain ⟨W, hW⟩ : ∃ V, Blk.wld hA = V := ⟨_, rfl⟩
 simp only [Blk.num] at hbA
 simp only [Blk.wld] at hW
 first | replace hAbE := awB hW hAbE | replace hAbE := awD hW hAbE
 rw [hW] at hH hA ⊢
 rw [hbA] at hA ⊢
 replace hNbA1 : w.heap.size + 1 + 1 + 1 < bA := (by rw [← hbA]; exact hNbA1)
 have hPbAbE : bA ≠ bE := (by (try simp only [World.drew] at zzbE hbA); omega)
 clear hW hbA zzbE
 have hAbA := hA
 clear hA
 exact X2_01 bA bE W ⟨hH, hAbA, hAbE, hNbA1, hNbE1, hPbAbE⟩
 }
 exact AllReadyH.nil
 }
 }
 {
 intro bA W hall
 obtain ⟨hH, hAbA, hNbA1⟩ := hall
 (try dsimp only at hH)
 refine wpAnyH_ready (rs := [10, 17]) (by kernel_rfl) (by simp) ?_
 refine arc (some 21) (fun K hK => ?_) ?_
 {
 go_simp
 (refine (E2.out _).mono ?_; rintro e w' ⟨rfl, hb⟩)
 (replace hAbA := hAbA.call hb)
 refine hK.out _ _ ?_ ?_
 · (exact ⟨hH.1.call hb, hH.2.1.call hb, hH.2.2.1.call hb, hH.2.2.2.1.call hb, bwS hH.2.2.2.2 (Nat.le_refl _) hb⟩)
 (try clear hH); (try clear hb)
 intro hH
 clear hK K
 (try simp only [cq])
 exact X3_0 bA w' ⟨hH, hAbA, hNbA1⟩
 }
 refine arc (some 8) (fun K hK => ?_) ?_
 {
 (have hNbE1 := hH.2.2.2.1.lt; (try simp only [World.drew] at hNbE1))
 have zzbA := hAbA.lt
 go_simp
 first | refine oA hK ?_ (fun hH hA => ?_) | refine oD hK ?_ (fun hH hA => ?_)
 · exact ⟨hH.1.alloc _, hH.2.1.alloc _, hH.2.2.1.alloc _, hH.2.2.2.1.alloc _, bwA hH.2.2.2.2 (Nat.le_refl _) _⟩
 clear hK K
 (try simp only [cq])
 obtain ⟨bE, hbA⟩ : ∃ b, Blk.num hA = b := ⟨_, rfl⟩
 obtain ⟨W, hW⟩ : ∃ V, Blk.wld hA = V := ⟨_, rfl⟩
 simp only [Blk.num] at hbA
 simp only [Blk.wld] at hW
 first | replace hAbA := awB hW hAbA | replace hAbA := awD hW hAbA
 rw [hW] at hH hA ⊢
 rw [hbA] at hA ⊢
 replace hNbE1 : w.heap.size + 1 + 1 + 1 < bE := (by rw [← hbA]; exact hNbE1)
 have hPbAbE : bA ≠ bE := (by (try simp only [World.drew] at zzbA hbA); omega)
 clear hW hbA zzbA
 have hAbE := hA
 clear hA
 exact X2_01 bA bE W ⟨hH, hAbA, hAbE, hNbA1, hNbE1, hPbAbE⟩
 }
 exact AllReadyH.nil
 }
 }
 {
 intro bA bE W hall
 obtain ⟨hH, hAbA, hAbE, hNbA1, hNbE1, hPbAbE⟩ := hall
 (try dsimp only at hH)
 refine wpAnyH_ready (rs := [7]) (by kernel_rfl) (by simp) ?_
 refine arc1 (some 18) fun K hK => ?_
 go_simp
 (refine (O1.out _).mono ?_; rintro e w' ⟨rfl, hb⟩)
 (replace hAbA := hAbA.call hb)
 (replace hAbE := hAbE.call hb)
 refine hK.out _ _ ?_ ?_
 · (exact ⟨hH.1.call hb, hH.2.1.call hb, hH.2.2.1.call hb, hH.2.2.2.1.call hb, bwS hH.2.2.2.2 (Nat.le_refl _) hb⟩)
 (try clear hH); (try clear hb)
 intro hH
 clear hK K
 (try simp only [cq])
 exact X2_01 bA bE w' ⟨hH, hAbA, hAbE, hNbA1, hNbE1, hPbAbE⟩
 }
 }
 {
 intro bE W hall
 obtain ⟨hH, hAbE, hNbE1⟩ := hall
 (try dsimp only at hH)
 refine wpAnyH_ready (rs := [15, 16]) (by kernel_rfl) (by simp) ?_
 refine arc (some 26) (fun K hK => ?_) ?_
 {
 go_simp
 (refine (O2.out _).mono ?_; rintro e w' ⟨rfl, hb⟩)
 (replace hAbE := hAbE.call hb)
 refine hK.out _ _ ?_ ?_
 · (exact ⟨hH.1.call hb, hH.2.1.call hb, hH.2.2.1.call hb, hH.2.2.2.1.call hb, bwS hH.2.2.2.2 (Nat.le_refl _) hb⟩)
 (try clear hH); (try clear hb)
 intro hH
 clear hK K
 (try simp only [cq])
 exact X4_1 bE w' ⟨hH, hAbE, hNbE1⟩
 }
 refine arc (some 7) (fun K hK => ?_) ?_
 {
 (have hNbA1 := hH.2.2.2.1.lt; (try simp only [World.drew] at hNbA1))
 have zzbE := hAbE.lt
 go_simp
 first | refine oA hK ?_ (fun hH hA => ?_) | refine oD hK ?_ (fun hH hA => ?_)
 · exact ⟨hH.1.alloc _, hH.2.1.alloc _, hH.2.2.1.alloc _, hH.2.2.2.1.alloc _, bwA hH.2.2.2.2 (Nat.le_refl _) _⟩
 clear hK K
 (try simp only [cq])
 obtain ⟨bA, hbA⟩ : ∃ b, Blk.num hA = b := ⟨_, rfl⟩
 obtain ⟨W, hW⟩ : ∃ V, Blk.wld hA = V := ⟨_, rfl⟩
 simp only [Blk.num] at hbA
 simp only [Blk.wld] at hW
 first | replace hAbE := awB hW hAbE | replace hAbE := awD hW hAbE
 rw [hW] at hH hA ⊢
 rw [hbA] at hA ⊢
 replace hNbA1 : w.heap.size + 1 + 1 + 1 < bA := (by rw [← hbA]; exact hNbA1)
 have hPbAbE : bA ≠ bE := (by (try simp only [World.drew] at zzbE hbA); omega)
 clear hW hbA zzbE
 have hAbA := hA
 clear hA
 exact X3_01 bA bE W ⟨hH, hAbA, hAbE, hNbA1, hNbE1, hPbAbE⟩
 }
 exact AllReadyH.nil
 }
 }
 {
 intro bA W hall
 obtain ⟨hH, hAbA, hNbA1⟩ := hall
 (try dsimp only at hH)
 refine wpAnyH_ready (rs := [15, 17]) (by kernel_rfl) (by simp) ?_
 refine arc (some 26) (fun K hK => ?_) ?_
 {
 go_simp
 (refine (O2.out _).mono ?_; rintro e w' ⟨rfl, hb⟩)
 (replace hAbA := hAbA.call hb)
 refine hK.out _ _ ?_ ?_
 · (exact ⟨hH.1.call hb, hH.2.1.call hb, hH.2.2.1.call hb, hH.2.2.2.1.call hb, bwS hH.2.2.2.2 (Nat.le_refl _) hb⟩)
 (try clear hH); (try clear hb)
 intro hH
 clear hK K
 (try simp only [cq])
 exact X4_0 bA w' ⟨hH, hAbA, hNbA1⟩
 }
 refine arc (some 8) (fun K hK => ?_) ?_
 {
 (have hNbE1 := hH.2.2.2.1.lt; (try simp only [World.drew] at hNbE1))
 have zzbA := hAbA.lt
 go_simp
 first | refine oA hK ?_ (fun hH hA => ?_) | refine oD hK ?_ (fun hH hA => ?_)
 · exact ⟨hH.1.alloc _, hH.2.1.alloc _, hH.2.2.1.alloc _, hH.2.2.2.1.alloc _, bwA hH.2.2.2.2 (Nat.le_refl _) _⟩
 clear hK K
 (try simp only [cq])
 obtain ⟨bE, hbA⟩ : ∃ b, Blk.num hA = b := ⟨_, rfl⟩
 obtain ⟨W, hW⟩ : ∃ V, Blk.wld hA = V := ⟨_, rfl⟩
 simp only [Blk.num] at hbA
 simp only [Blk.wld] at hW
 first | replace hAbA := awB hW hAbA | replace hAbA := awD hW hAbA
 rw [hW] at hH hA ⊢
 rw [hbA] at hA ⊢
 replace hNbE1 : w.heap.size + 1 + 1 + 1 < bE := (by rw [← hbA]; exact hNbE1)
 have hPbAbE : bA ≠ bE := (by (try simp only [World.drew] at zzbA hbA); omega)
 clear hW hbA zzbA
 have hAbE := hA
 clear hA
 exact X3_01 bA bE W ⟨hH, hAbA, hAbE, hNbA1, hNbE1, hPbAbE⟩
 }
 exact AllReadyH.nil
 }
 }
 {
 intro bA bE W hall
 obtain ⟨hH, hAbA, hAbE, hNbA1, hNbE1, hPbAbE⟩ := hall
 (try dsimp only at hH)
 refine wpAnyH_ready (rs := [10]) (by kernel_rfl) (by simp) ?_
 refine arc1 (some 21) fun K hK => ?_
 go_simp
 (refine (E2.out _).mono ?_; rintro e w' ⟨rfl, hb⟩)
 (replace hAbA := hAbA.call hb)
 (replace hAbE := hAbE.call hb)
 refine hK.out _ _ ?_ ?_
 · (exact ⟨hH.1.call hb, hH.2.1.call hb, hH.2.2.1.call hb, hH.2.2.2.1.call hb, bwS hH.2.2.2.2 (Nat.le_refl _) hb⟩)
 (try clear hH); (try clear hb)
 intro hH
 clear hK K
 (try simp only [cq])
 exact X3_01 bA bE w' ⟨hH, hAbA, hAbE, hNbA1, hNbE1, hPbAbE⟩
 }
 }
 {
 intro bE W hall
 obtain ⟨hH, hAbE, hNbE1⟩ := hall
 (try dsimp only at hH)
 refine wpAnyH_ready (rs := [16]) (by kernel_rfl) (by simp) ?_
 refine arc1 (some 7) fun K hK => ?_
 (have hNbA1 := hH.2.2.2.1.lt; (try simp only [World.drew] at hNbA1))
 have zzbE := hAbE.lt
 go_simp
 first | refine oA hK ?_ (fun hH hA => ?_) | refine oD hK ?_ (fun hH hA => ?_)
 · exact ⟨hH.1.alloc _, hH.2.1.alloc _, hH.2.2.1.alloc _, hH.2.2.2.1.alloc _, bwA hH.2.2.2.2 (Nat.le_refl _) _⟩
 clear hK K
 (try simp only [cq])
 obtain ⟨bA, hbA⟩ : ∃ b, Blk.num hA = b := ⟨_, rfl⟩
 obtain ⟨W, hW⟩ : ∃ V, Blk.wld hA = V := ⟨_, rfl⟩
 simp only [Blk.num] at hbA
 simp only [Blk.wld] at hW
 first | replace hAbE := awB hW hAbE | replace hAbE := awD hW hAbE
 rw [hW] at hH hA ⊢
 rw [hbA] at hA ⊢
 replace hNbA1 : w.heap.size + 1 + 1 + 1 < bA := (by rw [← hbA]; exact hNbA1)
 have hPbAbE : bA ≠ bE := (by (try simp only [World.drew] at zzbE hbA); omega)
 clear hW hbA zzbE
 have hAbA := hA
 clear hA
 exact X4_01 bA bE W ⟨hH, hAbA, hAbE, hNbA1, hNbE1, hPbAbE⟩
 }
 }
 {
 intro bA W hall
 obtain ⟨hH, hAbA, hNbA1⟩ := hall
 (try dsimp only at hH)
 refine wpAnyH_ready (rs := [17]) (by kernel_rfl) (by simp) ?_
 refine arc1 (some 8) fun K hK => ?_
 (have hNbE1 := hH.2.2.2.1.lt; (try simp only [World.drew] at hNbE1))
 have zzbA := hAbA.lt
 go_simp
 first | refine oA hK ?_ (fun hH hA => ?_) | refine oD hK ?_ (fun hH hA => ?_)
 · exact ⟨hH.1.alloc _, hH.2.1.alloc _, hH.2.2.1.alloc _, hH.2.2.2.1.alloc _, bwA hH.2.2.2.2 (Nat.le_refl _) _⟩
 clear hK K
 (try simp only [cq])
 obtain ⟨bE, hbA⟩ : ∃ b, Blk.num hA = b := ⟨_, rfl⟩
 obtain ⟨W, hW⟩ : ∃ V, Blk.wld hA = V := ⟨_, rfl⟩
 simp only [Blk.num] at hbA
 simp only [Blk.wld] at hW
 first | replace hAbA := awB hW hAbA | replace hAbA := awD hW hAbA
 rw [hW] at hH hA ⊢
 rw [hbA] at hA ⊢
 replace hNbE1 : w.heap.size + 1 + 1 + 1 < bE := (by rw [← hbA]; exact hNbE1)
 have hPbAbE : bA ≠ bE := (by (try simp only [World.drew] at zzbA hbA); omega)
 clear hW hbA zzbA
 have hAbE := hA
 clear hA
 exact X4_01 bA bE W ⟨hH, hAbA, hAbE, hNbA1, hNbE1, hPbAbE⟩
 }
 }
 {
 intro bA bE W hall
 obtain ⟨hH, hAbA, hAbE, hNbA1, hNbE1, hPbAbE⟩ := hall
 (try dsimp only at hH)
 refine wpAnyH_ready (rs := [15]) (by kernel_rfl) (by simp) ?_
 refine arc1 (some 26) fun K hK => ?_
 go_simp
 (refine (O2.out _).mono ?_; rintro e w' ⟨rfl, hb⟩)
 (replace hAbA := hAbA.call hb)
 (replace hAbE := hAbE.call hb)
 refine hK.out _ _ ?_ ?_
 · (exact ⟨hH.1.call hb, hH.2.1.call hb, hH.2.2.1.call hb, hH.2.2.2.1.call hb, bwS hH.2.2.2.2 (Nat.le_refl _) hb⟩)
 (try clear hH); (try clear hb)
 intro hH
 clear hK K
 (try simp only [cq])
 exact X4_01 bA bE w' ⟨hH, hAbA, hAbE, hNbA1, hNbE1, hPbAbE⟩
 }
 }
 {
 intro bA bE W hall
 obtain ⟨hH, hAbA, hAbE, hNbA1, hNbE1, hPbAbE⟩ := hall
 (try dsimp only at hH)
 refine wpAnyH_ready (rs := [18]) (by kernel_rfl) (by simp) ?_
 refine arc1 none fun K hK => ?_
 obtain ⟨r0, r1, r2, r3⟩ := hAbA.c4
 have fr0 := hAbA.free 0
 have fr1 := hAbA.free 1
 have fr2 := hAbA.free 2
 have fr3 := hAbA.free 3
 have zR := hAbA.lt
 replace hAbE := hAbE.other4 (c := bA) (by omega) (.int .i64 o.b0) (.int .i64 o.w0) (.int .i64 o.q0) (.int .i64 o.s0)
 replace hAbA := hAbA.set4 (.int .i64 o.b0) (.int .i64 o.w0) (.int .i64 o.q0) (.int .i64 o.s0)
 go_simp
 refine hK.out _ _ ?_ ?_
 · with_reducible exact ⟨hH.1.other4 (by omega) _ _ _ _, hH.2.1.other4 (by omega) _ _ _ _, hH.2.2.1.other4 (by omega) _ _ _ _, hH.2.2.2.1.other4 (by omega) _ _ _ _, below_set4 hH.2.2.2.2 (by omega) _ _ _ _⟩
 (try clear hH); (try clear hb)
 intro hH
 clear r0 fr0 r1 fr1 r2 fr2 r3 fr3 zR
 clear hK K
 (try simp only [cq])
 refine wpAnyH_ready (rs := [19]) (by kernel_rfl) (by simp) ?_
 refine arc1 none fun K hK => ?_
 obtain ⟨r0, r1, r2, r3⟩ := hAbE.c4
 have fr0 := hAbE.free 0
 have fr1 := hAbE.free 1
 have fr2 := hAbE.free 2
 have fr3 := hAbE.free 3
 have zR := hAbE.lt
 replace hAbA := hAbA.other4 (c := bE) (by omega) (.int .i64 o.b1) (.int .i64 o.w1) (.int .i64 o.q1) (.int .i64 o.s1)
 replace hAbE := hAbE.set4 (.int .i64 o.b1) (.int .i64 o.w1) (.int .i64 o.q1) (.int .i64 o.s1)
 go_simp
 refine hK.out _ _ ?_ ?_
 · with_reducible exact ⟨hH.1.other4 (by omega) _ _ _ _, hH.2.1.other4 (by omega) _ _ _ _, hH.2.2.1.other4 (by omega) _ _ _ _, hH.2.2.2.1.other4 (by omega) _ _ _ _, below_set4 hH.2.2.2.2 (by omega) _ _ _ _⟩
 (try clear hH); (try clear hb)
 intro hH
 clear r0 fr0 r1 fr1 r2 fr2 r3 fr3 zR
 clear hK K
 (try simp only [cq])
 refine wpAnyH_done (by kernel_rfl) ?_ _
 (try dsimp only [Act.put])
 (try simp only [cq])
 go_wp2_with fail
 go_meet
 exact ⟨bA, bE, rfl, rfl, hAbA, hAbE, hNbA1, hNbE1, hH.1, hH.2.1, hH.2.2.1, hH.2.2.2.1, hH.2.2.2.2⟩
 } )
  case rest =>
    obtain ⟨bC, bE, rfl, rfl, mC, mE, nC, nE, j0, j1, j2, j3, jB⟩ := hcut
    clear E1 E2 O1 O2
    obtain ⟨l0, l1, l2, l3, l4, l5, l6, l7⟩ := j0.c8
    obtain ⟨u0, u1, u2, u3, u4, u5⟩ := j2.c6
    obtain ⟨a0, a1, a2, a3⟩ := mC.c4
    obtain ⟨h0, h1, h2, h3⟩ := mE.c4
    have zL := j0.lt
    have zD := j2.lt
    have zC := mC.lt
    have zE := mE.lt
    go_wp2_with fail
    refine (C1.out _).mono ?_
    rintro e w9 ⟨rfl, hb⟩
    clear l0 l1 l2 l3 l4 l5 l6 l7 u0 u1 u2 u3 u4 u5 a0 a1 a2 a3 h0 h1 h2 h3 zL zD zC zE C1
    replace jB := bwS jB (Nat.le_refl _) hb
    replace j3 := j3.call hb
    clear hb
    obtain ⟨x0, x1, x2, x3, x4, x5, x6, x7, hR⟩ := j3
    obtain ⟨r0, r1, r2, r3, r4, r5, r6, r7⟩ := hR.c8
    have f0 := hR.free 0
    have f1 := hR.free 1
    have f2 := hR.free 2
    have f3 := hR.free 3
    have f4 := hR.free 4
    have f5 := hR.free 5
    have f6 := hR.free 6
    have f7 := hR.free 7
    have zR := hR.lt
    have HQ := Lib.hid (hR.set8 (.int .i64 y.b0) (.int .i64 y.b1) (.int .i64 y.w0) (.int .i64 y.w1) (.int .i64 y.q0) (.int .i64 y.q1) (.int .i64 y.s0) (.int .i64 y.s1)).c8
    go_wp2
    obtain ⟨z0, z1, z2, z3, z4, z5, z6, z7⟩ := HQ.out
    refine bodyPost_ret (v := .agg #[.int .i64 y.b0, .int .i64 y.b1, .int .i64 y.w0, .int .i64 y.w1, .int .i64 y.q0, .int .i64 y.q1, .int .i64 y.s0, .int .i64 y.s1]) (by simp [results, Tryz.results64, go_sem, z0, z1, z2, z3, z4, z5, z6, z7]) rfl ⟨rfl, ?_⟩
    iterate 8 refine Below.setCell ?_ (by simp; omega) _
    exact jB

end Go.Proofs.YtdbiijldincoiaaGreat

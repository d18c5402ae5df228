/-
  The reference's step on days around nought, and on any day.
-/
import Derived.Test.YtdbiijldincoiaaGreatTail
import Derived.Test.YtdbiijldincoiaaGreatRef5
set_option linter.unusedVariables false
set_option linter.unusedSimpArgs false
namespace Go.Proofs.YtdbiijldincoiaaGreat
open Go.RowKit

set_option maxRecDepth 100000 in
set_option maxHeartbeats 16000000 in
theorem rstep_both (l : Lw) (x : Ic) (d : Dy) (va : Option Addr) (vcap : Nat) (w : World) (hl : l.Ok) (hn : l.n ≤ 1000000) (hv : CovAt w (.slice va l.n vcap) l.n l.D l.P0 l.P1) (hx : x.In 400000000) (hd : d.Ok) (hc0 : d.c0 < 0) (hc : 0 ≤ d.c1) (y : Ic) (hy : y = joinI (coldI l (openI l x d) 0 d.c1) (warmI l (openI l x d) 1 (-d.c0))) :
    Calls Tryz.prog 64 #[.agg #[.int .i64 l.gr, .int .i64 l.la, (.slice va l.n vcap), .int .i64 l.m0, .int .i64 l.m1, .int .i64 l.so, .int .i64 l.h0, .int .i64 l.h1], .agg #[.int .i64 x.b0, .int .i64 x.b1, .int .i64 x.w0, .int .i64 x.w1, .int .i64 x.q0, .int .i64 x.q1, .int .i64 x.s0, .int .i64 x.s1], .agg #[.int .i64 d.c0, .int .i64 d.c1, .int .i64 d.f0, .int .i64 d.f1, .int .i64 d.wa, .bool d.cl]] w fun e w' => e = .returned (.agg #[.int .i64 y.b0, .int .i64 y.b1, .int .i64 y.w0, .int .i64 y.w1, .int .i64 y.q0, .int .i64 y.q1, .int .i64 y.s0, .int .i64 y.s1]) ∧ Below w.heap.size w w' := by
  obtain ⟨o, ho⟩ : ∃ o, openI l x d = o := ⟨_, rfl⟩
  have hoi := open_in hl hx hd
  rw [ho] at hoi hy
  have d0 := hd.c0
  have d1 := hd.c1
  have d2 := hd.c2
  have d3 := hd.f0
  have d4 := hd.f1
  have d5 := hd.f2
  obtain ⟨b1, b2, b3, b4, b5, b6, b7, b8, b9, b10, b11, b12, b13, b14, b15, b16⟩ := hx
  have E1 : Hid (∀ W, Calls Tryz.prog 84 #[.agg #[.int .i64 x.b0, .int .i64 x.b1, .int .i64 x.w0, .int .i64 x.w1, .int .i64 x.q0, .int .i64 x.q1, .int .i64 x.s0, .int .i64 x.s1]] W fun e w' => e = .returned (.agg #[.int .i64 x.b0, .int .i64 x.w0, .int .i64 x.q0, .int .i64 x.s0]) ∧ Below W.heap.size W w') := fun W => rleast_any x W
  have E2 : Hid (∀ W, Calls Tryz.prog 85 #[.agg #[.int .i64 x.b0, .int .i64 x.b1, .int .i64 x.w0, .int .i64 x.w1, .int .i64 x.q0, .int .i64 x.q1, .int .i64 x.s0, .int .i64 x.s1]] W fun e w' => e = .returned (.agg #[.int .i64 x.b1, .int .i64 x.w1, .int .i64 x.q1, .int .i64 x.s1]) ∧ Below W.heap.size W w') := fun W => rgreatest_any x W
  have O1 : Hid (∀ W, Calls Tryz.prog 83 #[.agg #[.int .i64 l.gr, .int .i64 l.la, (.slice va l.n vcap), .int .i64 l.m0, .int .i64 l.m1, .int .i64 l.so, .int .i64 l.h0, .int .i64 l.h1], .agg #[.int .i64 x.b0, .int .i64 x.w0, .int .i64 x.q0, .int .i64 x.s0], .agg #[.int .i64 d.c0, .int .i64 d.c1, .int .i64 d.f0, .int .i64 d.f1, .int .i64 d.wa, .bool d.cl], .int .i64 d.f0] W fun e w' => e = .returned (.agg #[.int .i64 o.b0, .int .i64 o.w0, .int .i64 o.q0, .int .i64 o.s0]) ∧ Below W.heap.size W w') := fun W => by
    rw [← ho]
    exact ropened_any l va vcap x.b0 x.w0 x.q0 x.s0 d d.f0 W hl (by omega) (by omega) (by omega) (by omega) (by omega) (by omega) hd.w1
  have O2 : Hid (∀ W, Calls Tryz.prog 83 #[.agg #[.int .i64 l.gr, .int .i64 l.la, (.slice va l.n vcap), .int .i64 l.m0, .int .i64 l.m1, .int .i64 l.so, .int .i64 l.h0, .int .i64 l.h1], .agg #[.int .i64 x.b1, .int .i64 x.w1, .int .i64 x.q1, .int .i64 x.s1], .agg #[.int .i64 d.c0, .int .i64 d.c1, .int .i64 d.f0, .int .i64 d.f1, .int .i64 d.wa, .bool d.cl], .int .i64 d.f1] W fun e w' => e = .returned (.agg #[.int .i64 o.b1, .int .i64 o.w1, .int .i64 o.q1, .int .i64 o.s1]) ∧ Below W.heap.size W w') := fun W => by
    rw [← ho]
    exact ropened_any l va vcap x.b1 x.w1 x.q1 x.s1 d d.f1 W hl (by omega) (by omega) (by omega) (by omega) (by omega) (by omega) hd.w1
  obtain ⟨f, hf⟩ : ∃ f, coldI l o 0 d.c1 = f := ⟨_, rfl⟩
  obtain ⟨m, hm⟩ : ∃ m, warmI l o 1 (-d.c0) = m := ⟨_, rfl⟩
  rw [hf, hm] at hy
  have C1 : Hid (∀ W, Below w.heap.size w W → Calls Tryz.prog 86 #[.agg #[.int .i64 l.gr, .int .i64 l.la, (.slice va l.n vcap), .int .i64 l.m0, .int .i64 l.m1, .int .i64 l.so, .int .i64 l.h0, .int .i64 l.h1], .agg #[.int .i64 o.b0, .int .i64 o.w0, .int .i64 o.q0, .int .i64 o.s0], .agg #[.int .i64 o.b1, .int .i64 o.w1, .int .i64 o.q1, .int .i64 o.s1], .int .i64 0, .int .i64 d.c1] W fun e w' => e = .returned (.agg #[.int .i64 f.b0, .int .i64 f.b1, .int .i64 f.w0, .int .i64 f.w1, .int .i64 f.q0, .int .i64 f.q1, .int .i64 f.s0, .int .i64 f.s1]) ∧ Below W.heap.size W w') := fun W hW => rcold_any l va vcap o 0 d.c1 W hl hn (hv.later hW) hoi (by omega) (by omega) (by omega) (by omega) f hf.symm
  have C2 : Hid (∀ W, Calls Tryz.prog 87 #[.agg #[.int .i64 l.gr, .int .i64 l.la, (.slice va l.n vcap), .int .i64 l.m0, .int .i64 l.m1, .int .i64 l.so, .int .i64 l.h0, .int .i64 l.h1], .agg #[.int .i64 o.b0, .int .i64 o.w0, .int .i64 o.q0, .int .i64 o.s0], .agg #[.int .i64 o.b1, .int .i64 o.w1, .int .i64 o.q1, .int .i64 o.s1], .int .i64 1, .int .i64 (-d.c0)] W fun e w' => e = .returned (.agg #[.int .i64 m.b0, .int .i64 m.b1, .int .i64 m.w0, .int .i64 m.w1, .int .i64 m.q0, .int .i64 m.q1, .int .i64 m.s0, .int .i64 m.s1]) ∧ Below W.heap.size W w') := fun W => rwarm_any l va vcap o 1 (-d.c0) W hl hoi (by omega) (by omega) (by omega) (by omega) m hm.symm
  have H0 : Hid (∀ W, Calls Tryz.prog 88 #[.agg #[.int .i64 f.b0, .int .i64 f.b1], .agg #[.int .i64 m.b0, .int .i64 m.b1]] W fun e w' => e = .returned (.agg #[.int .i64 y.b0, .int .i64 y.b1]) ∧ Below W.heap.size W w') := fun W => by rw [hy]; exact rhull_any f.b0 f.b1 m.b0 m.b1 W
  have H1 : Hid (∀ W, Calls Tryz.prog 88 #[.agg #[.int .i64 f.w0, .int .i64 f.w1], .agg #[.int .i64 m.w0, .int .i64 m.w1]] W fun e w' => e = .returned (.agg #[.int .i64 y.w0, .int .i64 y.w1]) ∧ Below W.heap.size W w') := fun W => by rw [hy]; exact rhull_any f.w0 f.w1 m.w0 m.w1 W
  have H2 : Hid (∀ W, Calls Tryz.prog 88 #[.agg #[.int .i64 f.q0, .int .i64 f.q1], .agg #[.int .i64 m.q0, .int .i64 m.q1]] W fun e w' => e = .returned (.agg #[.int .i64 y.q0, .int .i64 y.q1]) ∧ Below W.heap.size W w') := fun W => by rw [hy]; exact rhull_any f.q0 f.q1 m.q0 m.q1 W
  have H3 : Hid (∀ W, Calls Tryz.prog 88 #[.agg #[.int .i64 f.s0, .int .i64 f.s1], .agg #[.int .i64 m.s0, .int .i64 m.s1]] W fun e w' => e = .returned (.agg #[.int .i64 y.s0, .int .i64 y.s1]) ∧ Below W.heap.size W w') := fun W => by rw [hy]; exact rhull_any f.s0 f.s1 m.s0 m.s1 W
  clear hf hm
  have n0 : IntKind.i64.wrap (-d.c0) = -d.c0 := IntWalk.i64_in _ (by omega)
  have n1 : IntKind.i64.wrap (-d.c1) = -d.c1 := IntWalk.i64_in _ (by omega)
  clear hv hl hn hd ho hoi hy b1 b2 b3 b4 b5 b6 b7 b8 b9 b10 b11 b12 b13 b14 b15 b16 d3 d4 d5
  have j0 : Blk ((((w.alloc (.cells #[.int .i64 l.gr, .int .i64 l.la, .slice va l.n vcap, .int .i64 l.m0, .int .i64 l.m1, .int .i64 l.so, .int .i64 l.h0, .int .i64 l.h1] 26)).alloc (.cells #[.int .i64 x.b0, .int .i64 x.b1, .int .i64 x.w0, .int .i64 x.w1, .int .i64 x.q0, .int .i64 x.q1, .int .i64 x.s0, .int .i64 x.s1] 28)).alloc (.cells #[.int .i64 d.c0, .int .i64 d.c1, .int .i64 d.f0, .int .i64 d.f1, .int .i64 d.wa, .bool d.cl] 58)).alloc (.cells #[.int .i64 0, .int .i64 0, .int .i64 0, .int .i64 0, .int .i64 0, .int .i64 0, .int .i64 0, .int .i64 0] 28)) w.heap.size #[.int .i64 l.gr, .int .i64 l.la, .slice va l.n vcap, .int .i64 l.m0, .int .i64 l.m1, .int .i64 l.so, .int .i64 l.h0, .int .i64 l.h1] 26 := (((Blk.new w _ _).alloc _).alloc _).alloc _
  have j1 : Blk ((((w.alloc (.cells #[.int .i64 l.gr, .int .i64 l.la, .slice va l.n vcap, .int .i64 l.m0, .int .i64 l.m1, .int .i64 l.so, .int .i64 l.h0, .int .i64 l.h1] 26)).alloc (.cells #[.int .i64 x.b0, .int .i64 x.b1, .int .i64 x.w0, .int .i64 x.w1, .int .i64 x.q0, .int .i64 x.q1, .int .i64 x.s0, .int .i64 x.s1] 28)).alloc (.cells #[.int .i64 d.c0, .int .i64 d.c1, .int .i64 d.f0, .int .i64 d.f1, .int .i64 d.wa, .bool d.cl] 58)).alloc (.cells #[.int .i64 0, .int .i64 0, .int .i64 0, .int .i64 0, .int .i64 0, .int .i64 0, .int .i64 0, .int .i64 0] 28)) (w.heap.size + 1) #[.int .i64 x.b0, .int .i64 x.b1, .int .i64 x.w0, .int .i64 x.w1, .int .i64 x.q0, .int .i64 x.q1, .int .i64 x.s0, .int .i64 x.s1] 28 := ((Blk.new1 w _ _ _).alloc _).alloc _
  have j2 : Blk ((((w.alloc (.cells #[.int .i64 l.gr, .int .i64 l.la, .slice va l.n vcap, .int .i64 l.m0, .int .i64 l.m1, .int .i64 l.so, .int .i64 l.h0, .int .i64 l.h1] 26)).alloc (.cells #[.int .i64 x.b0, .int .i64 x.b1, .int .i64 x.w0, .int .i64 x.w1, .int .i64 x.q0, .int .i64 x.q1, .int .i64 x.s0, .int .i64 x.s1] 28)).alloc (.cells #[.int .i64 d.c0, .int .i64 d.c1, .int .i64 d.f0, .int .i64 d.f1, .int .i64 d.wa, .bool d.cl] 58)).alloc (.cells #[.int .i64 0, .int .i64 0, .int .i64 0, .int .i64 0, .int .i64 0, .int .i64 0, .int .i64 0, .int .i64 0] 28)) (w.heap.size + 1 + 1) #[.int .i64 d.c0, .int .i64 d.c1, .int .i64 d.f0, .int .i64 d.f1, .int .i64 d.wa, .bool d.cl] 58 := (Blk.new2 w _ _ _ _).alloc _
  have j3 : Eight ((((w.alloc (.cells #[.int .i64 l.gr, .int .i64 l.la, .slice va l.n vcap, .int .i64 l.m0, .int .i64 l.m1, .int .i64 l.so, .int .i64 l.h0, .int .i64 l.h1] 26)).alloc (.cells #[.int .i64 x.b0, .int .i64 x.b1, .int .i64 x.w0, .int .i64 x.w1, .int .i64 x.q0, .int .i64 x.q1, .int .i64 x.s0, .int .i64 x.s1] 28)).alloc (.cells #[.int .i64 d.c0, .int .i64 d.c1, .int .i64 d.f0, .int .i64 d.f1, .int .i64 d.wa, .bool d.cl] 58)).alloc (.cells #[.int .i64 0, .int .i64 0, .int .i64 0, .int .i64 0, .int .i64 0, .int .i64 0, .int .i64 0, .int .i64 0] 28)) (w.heap.size + 1 + 1 + 1) 28 := ⟨_, _, _, _, _, _, _, _, Blk.new3 w (.cells #[.int .i64 l.gr, .int .i64 l.la, .slice va l.n vcap, .int .i64 l.m0, .int .i64 l.m1, .int .i64 l.so, .int .i64 l.h0, .int .i64 l.h1] 26) (.cells #[.int .i64 x.b0, .int .i64 x.b1, .int .i64 x.w0, .int .i64 x.w1, .int .i64 x.q0, .int .i64 x.q1, .int .i64 x.s0, .int .i64 x.s1] 28) (.cells #[.int .i64 d.c0, .int .i64 d.c1, .int .i64 d.f0, .int .i64 d.f1, .int .i64 d.wa, .bool d.cl] 58) #[.int .i64 0, .int .i64 0, .int .i64 0, .int .i64 0, .int .i64 0, .int .i64 0, .int .i64 0, .int .i64 0] 28⟩
  have jB : Below w.heap.size w ((((w.alloc (.cells #[.int .i64 l.gr, .int .i64 l.la, .slice va l.n vcap, .int .i64 l.m0, .int .i64 l.m1, .int .i64 l.so, .int .i64 l.h0, .int .i64 l.h1] 26)).alloc (.cells #[.int .i64 x.b0, .int .i64 x.b1, .int .i64 x.w0, .int .i64 x.w1, .int .i64 x.q0, .int .i64 x.q1, .int .i64 x.s0, .int .i64 x.s1] 28)).alloc (.cells #[.int .i64 d.c0, .int .i64 d.c1, .int .i64 d.f0, .int .i64 d.f1, .int .i64 d.wa, .bool d.cl] 58)).alloc (.cells #[.int .i64 0, .int .i64 0, .int .i64 0, .int .i64 0, .int .i64 0, .int .i64 0, .int .i64 0, .int .i64 0] 28)) := by (repeat (first | exact Below.refl _ _ | assumption | refine Below.drew ?_ | refine Below.drewN ?_ _ | refine blT ?_ | refine blU ?_))
  go_enter Tryz.func64, Tryz.ntmps64
  go_upto_region 1 with fail
  generalize ((((w.alloc (.cells #[.int .i64 l.gr, .int .i64 l.la, .slice va l.n vcap, .int .i64 l.m0, .int .i64 l.m1, .int .i64 l.so, .int .i64 l.h0, .int .i64 l.h1] 26)).alloc (.cells #[.int .i64 x.b0, .int .i64 x.b1, .int .i64 x.w0, .int .i64 x.w1, .int .i64 x.q0, .int .i64 x.q1, .int .i64 x.s0, .int .i64 x.s1] 28)).alloc (.cells #[.int .i64 d.c0, .int .i64 d.c1, .int .i64 d.f0, .int .i64 d.f1, .int .i64 d.wa, .bool d.cl] 58)).alloc (.cells #[.int .i64 0, .int .i64 0, .int .i64 0, .int .i64 0, .int .i64 0, .int .i64 0, .int .i64 0, .int .i64 0] 28)) = V at j0 j1 j2 j3 jB ⊢
  go_upto_region 1 with fail
  go_cut [7, 8] (fun s7 s8 wx => ∃ bA bE : Nat, s7 = .pointer (some ⟨bA, 0, none⟩) ∧ s8 = .pointer (some ⟨bE, 0, none⟩) ∧ Blk wx bA #[.int .i64 o.b0, .int .i64 o.w0, .int .i64 o.q0, .int .i64 o.s0] 117 ∧ Blk wx bE #[.int .i64 o.b1, .int .i64 o.w1, .int .i64 o.q1, .int .i64 o.s1] 117 ∧ w.heap.size + 1 + 1 + 1 < bA ∧ w.heap.size + 1 + 1 + 1 < bE ∧ Blk wx (w.heap.size) #[.int .i64 l.gr, .int .i64 l.la, .slice va l.n vcap, .int .i64 l.m0, .int .i64 l.m1, .int .i64 l.so, .int .i64 l.h0, .int .i64 l.h1] 26 ∧ Blk wx (w.heap.size + 1) #[.int .i64 x.b0, .int .i64 x.b1, .int .i64 x.w0, .int .i64 x.w1, .int .i64 x.q0, .int .i64 x.q1, .int .i64 x.s0, .int .i64 x.s1] 28 ∧ Blk wx (w.heap.size + 1 + 1) #[.int .i64 d.c0, .int .i64 d.c1, .int .i64 d.f0, .int .i64 d.f1, .int .i64 d.wa, .bool d.cl] 58 ∧ Eight wx (w.heap.size + 1 + 1 + 1) 28 ∧ Below w.heap.size w wx)
  case first =>
    (
 let S9 : World → Prop := (fun w' => Blk w' (w.heap.size) #[.int .i64 l.gr, .int .i64 l.la, .slice va l.n vcap, .int .i64 l.m0, .int .i64 l.m1, .int .i64 l.so, .int .i64 l.h0, .int .i64 l.h1] 26 ∧ Blk w' (w.heap.size + 1) #[.int .i64 x.b0, .int .i64 x.b1, .int .i64 x.w0, .int .i64 x.w1, .int .i64 x.q0, .int .i64 x.q1, .int .i64 x.s0, .int .i64 x.s1] 28 ∧ Blk w' (w.heap.size + 1 + 1) #[.int .i64 d.c0, .int .i64 d.c1, .int .i64 d.f0, .int .i64 d.f1, .int .i64 d.wa, .bool d.cl] 58 ∧ Eight w' (w.heap.size + 1 + 1 + 1) 28 ∧ Below w.heap.size w w')
 refine wp_region_held_drew (S := S9) (by kernel_rfl) ?_ (fun hH => ?_)
 · (try dsimp only); (exact ⟨j0.drew, j1.drew, j2.drew, j3, jB.drew⟩)
 apply share0_2 (fun (bA bE : Nat) (W : World) => S9 W ∧ Blk W bA #[.int .i64 0, .int .i64 0, .int .i64 0, .int .i64 0] 117 ∧ Blk W bE #[.int .i64 0, .int .i64 0, .int .i64 0, .int .i64 0] 117 ∧ (w.heap.size + 1 + 1 + 1 < bA) ∧ (w.heap.size + 1 + 1 + 1 < bE) ∧ (bA ≠ bE))
 {
 intro X4_01
 apply share0_2 (fun (bA bE : Nat) (W : World) => S9 W ∧ Blk W bA #[.int .i64 0, .int .i64 0, .int .i64 0, .int .i64 0] 117 ∧ Blk W bE #[.int .i64 0, .int .i64 0, .int .i64 0, .int .i64 0] 117 ∧ (w.heap.size + 1 + 1 + 1 < bA) ∧ (w.heap.size + 1 + 1 + 1 < bE) ∧ (bA ≠ bE))
 {
 intro X3_01
 apply share0_1 (fun (bA : Nat) (W : World) => S9 W ∧ Blk W bA #[.int .i64 0, .int .i64 0, .int .i64 0, .int .i64 0] 117 ∧ (w.heap.size + 1 + 1 + 1 < bA))
 {
 intro X4_0
 apply share0_1 (fun (bE : Nat) (W : World) => S9 W ∧ Blk W bE #[.int .i64 0, .int .i64 0, .int .i64 0, .int .i64 0] 117 ∧ (w.heap.size + 1 + 1 + 1 < bE))
 {
 intro X4_1
 apply share0_2 (fun (bA bE : Nat) (W : World) => S9 W ∧ Blk W bA #[.int .i64 0, .int .i64 0, .int .i64 0, .int .i64 0] 117 ∧ Blk W bE #[.int .i64 0, .int .i64 0, .int .i64 0, .int .i64 0] 117 ∧ (w.heap.size + 1 + 1 + 1 < bA) ∧ (w.heap.size + 1 + 1 + 1 < bE) ∧ (bA ≠ bE))
 {
 intro X2_01
 apply share0_1 (fun (bA : Nat) (W : World) => S9 W ∧ Blk W bA #[.int .i64 0, .int .i64 0, .int .i64 0, .int .i64 0] 117 ∧ (w.heap.size + 1 + 1 + 1 < bA))
 {
 intro X3_0
 apply share0_1 (fun (bE : Nat) (W : World) => S9 W ∧ Blk W bE #[.int .i64 0, .int .i64 0, .int .i64 0, .int .i64 0] 117 ∧ (w.heap.size + 1 + 1 + 1 < bE))
 {
 intro X3_1
 apply share0_2 (fun (bA bE : Nat) (W : World) => S9 W ∧ Blk W bA #[.int .i64 0, .int .i64 0, .int .i64 0, .int .i64 0] 117 ∧ Blk W bE #[.int .i64 0, .int .i64 0, .int .i64 0, .int .i64 0] 117 ∧ (w.heap.size + 1 + 1 + 1 < bA) ∧ (w.heap.size + 1 + 1 + 1 < bE) ∧ (bA ≠ bE))
 {
 intro X1_01
 apply share0_1 (fun (bA : Nat) (W : World) => S9 W ∧ Blk W bA #[.int .i64 0, .int .i64 0, .int .i64 0, .int .i64 0] 117 ∧ (w.heap.size + 1 + 1 + 1 < bA))
 {
 intro X2_0
 apply share0_1 (fun (bE : Nat) (W : World) => S9 W ∧ Blk W bE #[.int .i64 0, .int .i64 0, .int .i64 0, .int .i64 0] 117 ∧ (w.heap.size + 1 + 1 + 1 < bE))
 {
 intro X2_1
 apply share0_2 (fun (bA bE : Nat) (W : World) => S9 W ∧ Blk W bA #[.int .i64 0, .int .i64 0, .int .i64 0, .int .i64 0] 117 ∧ Blk W bE #[.int .i64 0, .int .i64 0, .int .i64 0, .int .i64 0] 117 ∧ (w.heap.size + 1 + 1 + 1 < bA) ∧ (w.heap.size + 1 + 1 + 1 < bE) ∧ (bA ≠ bE))
 {
 intro X0_01
 apply share0_1 (fun (bA : Nat) (W : World) => S9 W ∧ Blk W bA #[.int .i64 0, .int .i64 0, .int .i64 0, .int .i64 0] 117 ∧ (w.heap.size + 1 + 1 + 1 < bA))
 {
 intro X1_0
 apply share0_1 (fun (bE : Nat) (W : World) => S9 W ∧ Blk W bE #[.int .i64 0, .int .i64 0, .int .i64 0, .int .i64 0] 117 ∧ (w.heap.size + 1 + 1 + 1 < bE))
 {
 intro X1_1
 apply share0_1 (fun (bA : Nat) (W : World) => S9 W ∧ Blk W bA #[.int .i64 0, .int .i64 0, .int .i64 0, .int .i64 0] 117 ∧ (w.heap.size + 1 + 1 + 1 < bA))
 {
 intro X0_0
 apply share0_1 (fun (bE : Nat) (W : World) => S9 W ∧ Blk W bE #[.int .i64 0, .int .i64 0, .int .i64 0, .int .i64 0] 117 ∧ (w.heap.size + 1 + 1 + 1 < bE))
 {
 intro X0_1
 refine tkY 0 (some 11) ?_ ?_ ?_
 rotate_left
 · intro w hS0; (try dsimp only at hS0); obtain ⟨kl, ka, kh, _, _⟩ := hS0; obtain ⟨l0, l1, l2, l3, l4, l5, l6, l7⟩ := kl.c8; obtain ⟨a0, a1, a2, a3, a4, a5, a6, a7⟩ := ka.c8; obtain ⟨h0, h1, h2, h3, h4, h5⟩ := kh.c6;go_simp; (try with_reducible rfl)
 (try simp only [cq])
 refine tkY 1 (some 12) ?_ ?_ ?_
 rotate_left
 · intro w hS0; (try dsimp only at hS0); obtain ⟨kl, ka, kh, _, _⟩ := hS0; obtain ⟨l0, l1, l2, l3, l4, l5, l6, l7⟩ := kl.c8; obtain ⟨a0, a1, a2, a3, a4, a5, a6, a7⟩ := ka.c8; obtain ⟨h0, h1, h2, h3, h4, h5⟩ := kh.c6;go_simp; (try with_reducible rfl)
 (try simp only [cq])
 refine tkY 3 (some 14) ?_ ?_ ?_
 rotate_left
 · intro w hS0; (try dsimp only at hS0); obtain ⟨kl, ka, kh, _, _⟩ := hS0; obtain ⟨l0, l1, l2, l3, l4, l5, l6, l7⟩ := kl.c8; obtain ⟨a0, a1, a2, a3, a4, a5, a6, a7⟩ := ka.c8; obtain ⟨h0, h1, h2, h3, h4, h5⟩ := kh.c6;go_simp; (try with_reducible rfl)
 (try simp only [cq])
 refine tkY 4 (some 15) ?_ ?_ ?_
 rotate_left
 · intro w hS0; (try dsimp only at hS0); obtain ⟨kl, ka, kh, _, _⟩ := hS0; obtain ⟨l0, l1, l2, l3, l4, l5, l6, l7⟩ := kl.c8; obtain ⟨a0, a1, a2, a3, a4, a5, a6, a7⟩ := ka.c8; obtain ⟨h0, h1, h2, h3, h4, h5⟩ := kh.c6;go_simp; (try with_reducible rfl)
 (try simp only [cq])
 refine tkY 5 (some 16) ?_ ?_ ?_
 rotate_left
 · intro w hS0; (try dsimp only at hS0); obtain ⟨kl, ka, kh, _, _⟩ := hS0; obtain ⟨l0, l1, l2, l3, l4, l5, l6, l7⟩ := kl.c8; obtain ⟨a0, a1, a2, a3, a4, a5, a6, a7⟩ := ka.c8; obtain ⟨h0, h1, h2, h3, h4, h5⟩ := kh.c6;go_simp; (try with_reducible rfl)
 (try simp only [cq])
 refine tkY 6 (some 17) ?_ ?_ ?_
 rotate_left
 · intro w hS0; (try dsimp only at hS0); obtain ⟨kl, ka, kh, _, _⟩ := hS0; obtain ⟨l0, l1, l2, l3, l4, l5, l6, l7⟩ := kl.c8; obtain ⟨a0, a1, a2, a3, a4, a5, a6, a7⟩ := ka.c8; obtain ⟨h0, h1, h2, h3, h4, h5⟩ := kh.c6;go_simp; (try with_reducible rfl)
 (try simp only [cq])
 refine tkY 8 (some 19) ?_ ?_ ?_
 rotate_left
 · intro w hS0; (try dsimp only at hS0); obtain ⟨kl, ka, kh, _, _⟩ := hS0; obtain ⟨l0, l1, l2, l3, l4, l5, l6, l7⟩ := kl.c8; obtain ⟨a0, a1, a2, a3, a4, a5, a6, a7⟩ := ka.c8; obtain ⟨h0, h1, h2, h3, h4, h5⟩ := kh.c6;go_simp; (try with_reducible rfl)
 (try simp only [cq])
 refine tkY 9 (some 20) ?_ ?_ ?_
 rotate_left
 · intro w hS0; (try dsimp only at hS0); obtain ⟨kl, ka, kh, _, _⟩ := hS0; obtain ⟨l0, l1, l2, l3, l4, l5, l6, l7⟩ := kl.c8; obtain ⟨a0, a1, a2, a3, a4, a5, a6, a7⟩ := ka.c8; obtain ⟨h0, h1, h2, h3, h4, h5⟩ := kh.c6;go_simp; (try with_reducible rfl)
 (try simp only [cq])
 refine tkY 11 (some 22) ?_ ?_ ?_
 rotate_left
 · intro w hS0; (try dsimp only at hS0); obtain ⟨kl, ka, kh, _, _⟩ := hS0; obtain ⟨l0, l1, l2, l3, l4, l5, l6, l7⟩ := kl.c8; obtain ⟨a0, a1, a2, a3, a4, a5, a6, a7⟩ := ka.c8; obtain ⟨h0, h1, h2, h3, h4, h5⟩ := kh.c6;go_simp; (try with_reducible rfl)
 (try simp only [cq])
 refine tkY 12 (some 23) ?_ ?_ ?_
 rotate_left
 · intro w hS0; (try dsimp only at hS0); obtain ⟨kl, ka, kh, _, _⟩ := hS0; obtain ⟨l0, l1, l2, l3, l4, l5, l6, l7⟩ := kl.c8; obtain ⟨a0, a1, a2, a3, a4, a5, a6, a7⟩ := ka.c8; obtain ⟨h0, h1, h2, h3, h4, h5⟩ := kh.c6;go_simp; (try with_reducible rfl)
 (try simp only [cq])
 refine tkY 13 (some 24) ?_ ?_ ?_
 rotate_left
 · intro w hS0; (try dsimp only at hS0); obtain ⟨kl, ka, kh, _, _⟩ := hS0; obtain ⟨l0, l1, l2, l3, l4, l5, l6, l7⟩ := kl.c8; obtain ⟨a0, a1, a2, a3, a4, a5, a6, a7⟩ := ka.c8; obtain ⟨h0, h1, h2, h3, h4, h5⟩ := kh.c6;go_simp; (try with_reducible rfl)
 (try simp only [cq])
 refine tkY 14 (some 25) ?_ ?_ ?_
 rotate_left
 · intro w hS0; (try dsimp only at hS0); obtain ⟨kl, ka, kh, _, _⟩ := hS0; obtain ⟨l0, l1, l2, l3, l4, l5, l6, l7⟩ := kl.c8; obtain ⟨a0, a1, a2, a3, a4, a5, a6, a7⟩ := ka.c8; obtain ⟨h0, h1, h2, h3, h4, h5⟩ := kh.c6;go_simp; (try with_reducible rfl)
 (try simp only [cq])
 refine wpAnyH_ready (rs := [2, 16, 17]) (by kernel_rfl) (by simp) ?_
 refine arc (some 13) (fun K hK => ?_) ?_
 {
 go_simp
 (refine (E1.out _).mono ?_; rintro e w' ⟨rfl, hb⟩)
 refine hK.out _ _ ?_ ?_
 · (exact ⟨hH.1.call hb, hH.2.1.call hb, hH.2.2.1.call hb, hH.2.2.2.1.call hb, bwS hH.2.2.2.2 (Nat.le_refl _) hb⟩)
 (try clear hH); (try clear hb)
 intro hH
 clear hK K
 (try simp only [cq])
 refine wpAnyH_ready (rs := [7, 16, 17]) (by kernel_rfl) (by simp) ?_
 refine arc (some 18) (fun K hK => ?_) ?_
 {
 go_simp
 (refine (O1.out _).mono ?_; rintro e w' ⟨rfl, hb⟩)
 refine hK.out _ _ ?_ ?_
 · (exact ⟨hH.1.call hb, hH.2.1.call hb, hH.2.2.1.call hb, hH.2.2.2.1.call hb, bwS hH.2.2.2.2 (Nat.le_refl _) hb⟩)
 (try clear hH); (try clear hb)
 intro hH
 clear hK K
 (try simp only [cq])
 refine wpAnyH_ready (rs := [10, 16, 17]) (by kernel_rfl) (by simp) ?_
 refine arc (some 21) (fun K hK => ?_) ?_
 {
 go_simp
 (refine (E2.out _).mono ?_; rintro e w' ⟨rfl, hb⟩)
 refine hK.out _ _ ?_ ?_
 · (exact ⟨hH.1.call hb, hH.2.1.call hb, hH.2.2.1.call hb, hH.2.2.2.1.call hb, bwS hH.2.2.2.2 (Nat.le_refl _) hb⟩)
 (try clear hH); (try clear hb)
 intro hH
 clear hK K
 (try simp only [cq])
 refine wpAnyH_ready (rs := [15, 16, 17]) (by kernel_rfl) (by simp) ?_
 refine arc (some 26) (fun K hK => ?_) ?_
 {
 go_simp
 (refine (O2.out _).mono ?_; rintro e w' ⟨rfl, hb⟩)
 refine hK.out _ _ ?_ ?_
 · (exact ⟨hH.1.call hb, hH.2.1.call hb, hH.2.2.1.call hb, hH.2.2.2.1.call hb, bwS hH.2.2.2.2 (Nat.le_refl _) hb⟩)
 (try clear hH); (try clear hb)
 intro hH
 clear hK K
 (try simp only [cq])
 refine wpAnyH_ready (rs := [16, 17]) (by kernel_rfl) (by simp) ?_
 refine arc (some 7) (fun K hK => ?_) ?_
 {
 (have hNbA1 := hH.2.2.2.1.lt; (try simp only [World.drew] at hNbA1))
 go_simp
 first | refine oA hK ?_ (fun hH hA => ?_) | refine oD hK ?_ (fun hH hA => ?_)
 · exact ⟨hH.1.alloc _, hH.2.1.alloc _, hH.2.2.1.alloc _, hH.2.2.2.1.alloc _, bwA hH.2.2.2.2 (Nat.le_refl _) _⟩
 clear hK K
 (try simp only [cq])
 obtain ⟨bA, hbA⟩ : ∃ b, Blk.num hA = b := ⟨_, rfl⟩
 obtain ⟨W, hW⟩ : ∃ V, Blk.wld hA = V := ⟨_, rfl⟩
 simp only [Blk.num] at hbA
 simp only [Blk.wld] at hW
 rw [hW] at hH hA ⊢
 rw [hbA] at hA ⊢
 replace hNbA1 : w.heap.size + 1 + 1 + 1 < bA := (by rw [← hbA]; exact hNbA1)
 clear hW hbA
 have hAbA := hA
 clear hA
 exact X4_0 bA W ⟨hH, hAbA, hNbA1⟩
 }
 refine arc (some 8) (fun K hK => ?_) ?_
 {
 (have hNbE1 := hH.2.2.2.1.lt; (try simp only [World.drew] at hNbE1))
 go_simp
 first | refine oA hK ?_ (fun hH hA => ?_) | refine oD hK ?_ (fun hH hA => ?_)
 · exact ⟨hH.1.alloc _, hH.2.1.alloc _, hH.2.2.1.alloc _, hH.2.2.2.1.alloc _, bwA hH.2.2.2.2 (Nat.le_refl _) _⟩
 clear hK K
 (try simp only [cq])
 obtain ⟨bE, hbA⟩ : ∃ b, Blk.num hA = b := ⟨_, rfl⟩
 obtain ⟨W, hW⟩ : ∃ V, Blk.wld hA = V := ⟨_, rfl⟩
 simp only [Blk.num] at hbA
 simp only [Blk.wld] at hW
 rw [hW] at hH hA ⊢
 rw [hbA] at hA ⊢
 replace hNbE1 : w.heap.size + 1 + 1 + 1 < bE := (by rw [← hbA]; exact hNbE1)
 clear hW hbA
 have hAbE := hA
 clear hA
 exact X4_1 bE W ⟨hH, hAbE, hNbE1⟩
 }
 exact AllReadyH.nil
 }
 refine arc (some 7) (fun K hK => ?_) ?_
 {
 (have hNbA1 := hH.2.2.2.1.lt; (try simp only [World.drew] at hNbA1))
 go_simp
 first | refine oA hK ?_ (fun hH hA => ?_) | refine oD hK ?_ (fun hH hA => ?_)
 · exact ⟨hH.1.alloc _, hH.2.1.alloc _, hH.2.2.1.alloc _, hH.2.2.2.1.alloc _, bwA hH.2.2.2.2 (Nat.le_refl _) _⟩
 clear hK K
 (try simp only [cq])
 obtain ⟨bA, hbA⟩ : ∃ b, Blk.num hA = b := ⟨_, rfl⟩
 obtain ⟨W, hW⟩ : ∃ V, Blk.wld hA = V := ⟨_, rfl⟩
 simp only [Blk.num] at hbA
 simp only [Blk.wld] at hW
 rw [hW] at hH hA ⊢
 rw [hbA] at hA ⊢
 replace hNbA1 : w.heap.size + 1 + 1 + 1 < bA := (by rw [← hbA]; exact hNbA1)
 clear hW hbA
 have hAbA := hA
 clear hA
 exact X3_0 bA W ⟨hH, hAbA, hNbA1⟩
 }
 refine arc (some 8) (fun K hK => ?_) ?_
 {
 (have hNbE1 := hH.2.2.2.1.lt; (try simp only [World.drew] at hNbE1))
 go_simp
 first | refine oA hK ?_ (fun hH hA => ?_) | refine oD hK ?_ (fun hH hA => ?_)
 · exact ⟨hH.1.alloc _, hH.2.1.alloc _, hH.2.2.1.alloc _, hH.2.2.2.1.alloc _, bwA hH.2.2.2.2 (Nat.le_refl _) _⟩
 clear hK K
 (try simp only [cq])
 obtain ⟨bE, hbA⟩ : ∃ b, Blk.num hA = b := ⟨_, rfl⟩
 obtain ⟨W, hW⟩ : ∃ V, Blk.wld hA = V := ⟨_, rfl⟩
 simp only [Blk.num] at hbA
 simp only [Blk.wld] at hW
 rw [hW] at hH hA ⊢
 rw [hbA] at hA ⊢
 replace hNbE1 : w.heap.size + 1 + 1 + 1 < bE := (by rw [← hbA]; exact hNbE1)
 clear hW hbA
 have hAbE := hA
 clear hA
 exact X3_1 bE W ⟨hH, hAbE, hNbE1⟩
 }
 exact AllReadyH.nil
 }
 refine arc (some 7) (fun K hK => ?_) ?_
 {
 (have hNbA1 := hH.2.2.2.1.lt; (try simp only [World.drew] at hNbA1))
 go_simp
 first | refine oA hK ?_ (fun hH hA => ?_) | refine oD hK ?_ (fun hH hA => ?_)
 · exact ⟨hH.1.alloc _, hH.2.1.alloc _, hH.2.2.1.alloc _, hH.2.2.2.1.alloc _, bwA hH.2.2.2.2 (Nat.le_refl _) _⟩
 clear hK K
 (try simp only [cq])
 obtain ⟨bA, hbA⟩ : ∃ b, Blk.num hA = b := ⟨_, rfl⟩
 obtain ⟨W, hW⟩ : ∃ V, Blk.wld hA = V := ⟨_, rfl⟩
 simp only [Blk.num] at hbA
 simp only [Blk.wld] at hW
 rw [hW] at hH hA ⊢
 rw [hbA] at hA ⊢
 replace hNbA1 : w.heap.size + 1 + 1 + 1 < bA := (by rw [← hbA]; exact hNbA1)
 clear hW hbA
 have hAbA := hA
 clear hA
 exact X2_0 bA W ⟨hH, hAbA, hNbA1⟩
 }
 refine arc (some 8) (fun K hK => ?_) ?_
 {
 (have hNbE1 := hH.2.2.2.1.lt; (try simp only [World.drew] at hNbE1))
 go_simp
 first | refine oA hK ?_ (fun hH hA => ?_) | refine oD hK ?_ (fun hH hA => ?_)
 · exact ⟨hH.1.alloc _, hH.2.1.alloc _, hH.2.2.1.alloc _, hH.2.2.2.1.alloc _, bwA hH.2.2.2.2 (Nat.le_refl _) _⟩
 clear hK K
 (try simp only [cq])
 obtain ⟨bE, hbA⟩ : ∃ b, Blk.num hA = b := ⟨_, rfl⟩
 obtain ⟨W, hW⟩ : ∃ V, Blk.wld hA = V := ⟨_, rfl⟩
 simp only [Blk.num] at hbA
 simp only [Blk.wld] at hW
 rw [hW] at hH hA ⊢
 rw [hbA] at hA ⊢
 replace hNbE1 : w.heap.size + 1 + 1 + 1 < bE := (by rw [← hbA]; exact hNbE1)
 clear hW hbA
 have hAbE := hA
 clear hA
 exact X2_1 bE W ⟨hH, hAbE, hNbE1⟩
 }
 exact AllReadyH.nil
 }
 refine arc (some 7) (fun K hK => ?_) ?_
 {
 (have hNbA1 := hH.2.2.2.1.lt; (try simp only [World.drew] at hNbA1))
 go_simp
 first | refine oA hK ?_ (fun hH hA => ?_) | refine oD hK ?_ (fun hH hA => ?_)
 · exact ⟨hH.1.alloc _, hH.2.1.alloc _, hH.2.2.1.alloc _, hH.2.2.2.1.alloc _, bwA hH.2.2.2.2 (Nat.le_refl _) _⟩
 clear hK K
 (try simp only [cq])
 obtain ⟨bA, hbA⟩ : ∃ b, Blk.num hA = b := ⟨_, rfl⟩
 obtain ⟨W, hW⟩ : ∃ V, Blk.wld hA = V := ⟨_, rfl⟩
 simp only [Blk.num] at hbA
 simp only [Blk.wld] at hW
 rw [hW] at hH hA ⊢
 rw [hbA] at hA ⊢
 replace hNbA1 : w.heap.size + 1 + 1 + 1 < bA := (by rw [← hbA]; exact hNbA1)
 clear hW hbA
 have hAbA := hA
 clear hA
 exact X1_0 bA W ⟨hH, hAbA, hNbA1⟩
 }
 refine arc (some 8) (fun K hK => ?_) ?_
 {
 (have hNbE1 := hH.2.2.2.1.lt; (try simp only [World.drew] at hNbE1))
 go_simp
 first | refine oA hK ?_ (fun hH hA => ?_) | refine oD hK ?_ (fun hH hA => ?_)
 · exact ⟨hH.1.alloc _, hH.2.1.alloc _, hH.2.2.1.alloc _, hH.2.2.2.1.alloc _, bwA hH.2.2.2.2 (Nat.le_refl _) _⟩
 clear hK K
 (try simp only [cq])
 obtain ⟨bE, hbA⟩ : ∃ b, Blk.num hA = b := ⟨_, rfl⟩
 obtain ⟨W, hW⟩ : ∃ V, Blk.wld hA = V := ⟨_, rfl⟩
 simp only [Blk.num] at hbA
 simp only [Blk.wld] at hW
 rw [hW] at hH hA ⊢
 rw [hbA] at hA ⊢
 replace hNbE1 : w.heap.size + 1 + 1 + 1 < bE := (by rw [← hbA]; exact hNbE1)
 clear hW hbA
 have hAbE := hA
 clear hA
 exact X1_1 bE W ⟨hH, hAbE, hNbE1⟩
 }
 exact AllReadyH.nil
 }
 refine arc (some 7) (fun K hK => ?_) ?_
 {
 (have hNbA1 := hH.2.2.2.1.lt; (try simp only [World.drew] at hNbA1))
 go_simp
 first | refine oA hK ?_ (fun hH hA => ?_) | refine oD hK ?_ (fun hH hA => ?_)
 · exact ⟨hH.1.alloc _, hH.2.1.alloc _, hH.2.2.1.alloc _, hH.2.2.2.1.alloc _, bwA hH.2.2.2.2 (Nat.le_refl _) _⟩
 clear hK K
 (try simp only [cq])
 obtain ⟨bA, hbA⟩ : ∃ b, Blk.num hA = b := ⟨_, rfl⟩
 obtain ⟨W, hW⟩ : ∃ V, Blk.wld hA = V := ⟨_, rfl⟩
 simp only [Blk.num] at hbA
 simp only [Blk.wld] at hW
 rw [hW] at hH hA ⊢
 rw [hbA] at hA ⊢
 replace hNbA1 : w.heap.size + 1 + 1 + 1 < bA := (by rw [← hbA]; exact hNbA1)
 clear hW hbA
 have hAbA := hA
 clear hA
 exact X0_0 bA W ⟨hH, hAbA, hNbA1⟩
 }
 refine arc (some 8) (fun K hK => ?_) ?_
 {
 (have hNbE1 := hH.2.2.2.1.lt; (try simp only [World.drew] at hNbE1))
 go_simp
 first | refine oA hK ?_ (fun hH hA => ?_) | refine oD hK ?_ (fun hH hA => ?_)
 · exact ⟨hH.1.alloc _, hH.2.1.alloc _, hH.2.2.1.alloc _, hH.2.2.2.1.alloc _, bwA hH.2.2.2.2 (Nat.le_refl _) _⟩
 clear hK K
 (try simp only [cq])
 obtain ⟨bE, hbA⟩ : ∃ b, Blk.num hA = b := ⟨_, rfl⟩
 obtain ⟨W, hW⟩ : ∃ V, Blk.wld hA = V := ⟨_, rfl⟩
 simp only [Blk.num] at hbA
 simp only [Blk.wld] at hW
 rw [hW] at hH hA ⊢
 rw [hbA] at hA ⊢
 replace hNbE1 : w.heap.size + 1 + 1 + 1 < bE := (by rw [← hbA]; exact hNbE1)
 clear hW hbA
 have hAbE := hA
 clear hA
 exact X0_1 bE W ⟨hH, hAbE, hNbE1⟩
 }
 exact AllReadyH.nil
 }
 {
 intro bE W hall
 obtain ⟨hH, hAbE, hNbE1⟩ := hall
 (try dsimp only at hH)
 refine wpAnyH_ready (rs := [2, 16]) (by kernel_rfl) (by simp) ?_
 refine arc (some 13) (fun K hK => ?_) ?_
 {
 go_simp
 (refine (E1.out _).mono ?_; rintro e w' ⟨rfl, hb⟩)
 (replace hAbE := hAbE.call hb)
 refine hK.out _ _ ?_ ?_
 · (exact ⟨hH.1.call hb, hH.2.1.call hb, hH.2.2.1.call hb, hH.2.2.2.1.call hb, bwS hH.2.2.2.2 (Nat.le_refl _) hb⟩)
 (try clear hH); (try clear hb)
 intro hH
 clear hK K
 (try simp only [cq])
 exact X1_1 bE w' ⟨hH, hAbE, hNbE1⟩
 }
 refine arc (some 7) (fun K hK => ?_) ?_
 {
 (have hNbA1 := hH.2.2.2.1.lt; (try simp only [World.drew] at hNbA1))
 have zzbE := hAbE.lt
 go_simp
 first | refine oA hK ?_ (fun hH hA => ?_) | refine oD hK ?_ (fun hH hA => ?_)
 · exact ⟨hH.1.alloc _, hH.2.1.alloc _, hH.2.2.1.alloc _, hH.2.2.2.1.alloc _, bwA hH.2.2.2.2 (Nat.le_refl _) _⟩
 clear hK K
 (try simp only [cq])
 obtain ⟨bA, hbA⟩ : ∃ b, Blk.num hA = b := ⟨_, rfl⟩
 obtain ⟨W, hW⟩ : ∃ V, Blk.wld hA = V := ⟨_, rfl⟩
 simp only [Blk.num] at hbA
 simp only [Blk.wld] at hW
 first | replace hAbE := awB hW hAbE | replace hAbE := awD hW hAbE
 rw [hW] at hH hA ⊢
 rw [hbA] at hA ⊢
 replace hNbA1 : w.heap.size + 1 + 1 + 1 < bA := (by rw [← hbA]; exact hNbA1)
 have hPbAbE : bA ≠ bE := (by (try simp only [World.drew] at zzbE hbA); omega)
 clear hW hbA zzbE
 have hAbA := hA
 clear hA
 exact X0_01 bA bE W ⟨hH, hAbA, hAbE, hNbA1, hNbE1, hPbAbE⟩
 }
 exact AllReadyH.nil
 }
 }
 {
 intro bA W hall
 obtain ⟨hH, hAbA, hNbA1⟩ := hall
 (try dsimp only at hH)
 refine wpAnyH_ready (rs := [2, 17]) (by kernel_rfl) (by simp) ?_
 refine arc (some 13) (fun K hK => ?_) ?_
 {
 go_simp
 (refine (E1.out _).mono ?_; rintro e w' ⟨rfl, hb⟩)
 (replace hAbA := hAbA.call hb)
 refine hK.out _ _ ?_ ?_
 · (exact ⟨hH.1.call hb, hH.2.1.call hb, hH.2.2.1.call hb, hH.2.2.2.1.call hb, bwS hH.2.2.2.2 (Nat.le_refl _) hb⟩)
 (try clear hH); (try clear hb)
 intro hH
 clear hK K
 (try simp only [cq])
 exact X1_0 bA w' ⟨hH, hAbA, hNbA1⟩
 }
 refine arc (some 8) (fun K hK => ?_) ?_
 {
 (have hNbE1 := hH.2.2.2.1.lt; (try simp only [World.drew] at hNbE1))
 have zzbA := hAbA.lt
 go_simp
 first | refine oA hK ?_ (fun hH hA => ?_) | refine oD hK ?_ (fun hH hA => ?_)
 · exact ⟨hH.1.alloc _, hH.2.1.alloc _, hH.2.2.1.alloc _, hH.2.2.2.1.alloc _, bwA hH.2.2.2.2 (Nat.le_refl _) _⟩
 clear hK K
 (try simp only [cq])
 obtain ⟨bE, hbA⟩ : ∃ b, Blk.num hA = b := ⟨_, rfl⟩
 obtain ⟨W, hW⟩ : ∃ V, Blk.wld hA = V := ⟨_, rfl⟩
 simp only [Blk.num] at hbA
 simp only [Blk.wld] at hW
 first | replace hAbA := awB hW hAbA | replace hAbA := awD hW hAbA
 rw [hW] at hH hA ⊢
 rw [hbA] at hA ⊢
 replace hNbE1 : w.heap.size + 1 + 1 + 1 < bE := (by rw [← hbA]; exact hNbE1)
 have hPbAbE : bA ≠ bE := (by (try simp only [World.drew] at zzbA hbA); omega)
 clear hW hbA zzbA
 have hAbE := hA
 clear hA
 exact X0_01 bA bE W ⟨hH, hAbA, hAbE, hNbA1, hNbE1, hPbAbE⟩
 }
 exact AllReadyH.nil
 }
 }
 {
 intro bE W hall
 obtain ⟨hH, hAbE, hNbE1⟩ := hall
 (try dsimp only at hH)
 refine wpAnyH_ready (rs := [7, 16]) (by kernel_rfl) (by simp) ?_
 refine arc (some 18) (fun K hK => ?_) ?_
 {
 go_simp
 (refine (O1.out _).mono ?_; rintro e w' ⟨rfl, hb⟩)
 (replace hAbE := hAbE.call hb)
 refine hK.out _ _ ?_ ?_
 · (exact ⟨hH.1.call hb, hH.2.1.call hb, hH.2.2.1.call hb, hH.2.2.2.1.call hb, bwS hH.2.2.2.2 (Nat.le_refl _) hb⟩)
 (try clear hH); (try clear hb)
 intro hH
 clear hK K
 (try simp only [cq])
 exact X2_1 bE w' ⟨hH, hAbE, hNbE1⟩
 }
 refine arc (some 7) (fun K hK => ?_) ?_
 {
 (have hNbA1 := hH.2.2.2.1.lt; (try simp only [World.drew] at hNbA1))
 have zzbE := hAbE.lt
 go_simp
 first | refine oA hK ?_ (fun hH hA => ?_) | refine oD hK ?_ (fun hH hA => ?_)
 · exact ⟨hH.1.alloc _, hH.2.1.alloc _, hH.2.2.1.alloc _, hH.2.2.2.1.alloc _, bwA hH.2.2.2.2 (Nat.le_refl _) _⟩
 clear hK K
 (try simp only [cq])
 obtain ⟨bA, hbA⟩ : ∃ b, Blk.num hA = b := ⟨_, rfl⟩
 obtain ⟨W, hW⟩ : ∃ V, Blk.wld hA = V := ⟨_, rfl⟩
 simp only [Blk.num] at hbA
 simp only [Blk.wld] at hW
 first | replace hAbE := awB hW hAbE | replace hAbE := awD hW hAbE
 rw [hW] at hH hA ⊢
 rw [hbA] at hA ⊢
 replace hNbA1 : w.heap.size + 1 + 1 + 1 < bA := (by rw [← hbA]; exact hNbA1)
 have hPbAbE : bA ≠ bE := (by (try simp only [World.drew] at zzbE hbA); omega)
 clear hW hbA zzbE
 have hAbA := hA
 clear hA
 exact X1_01 bA bE W ⟨hH, hAbA, hAbE, hNbA1, hNbE1, hPbAbE⟩
 }
 exact AllReadyH.nil
 }
 }
 {
 intro bA W hall
 obtain ⟨hH, hAbA, hNbA1⟩ := hall
 (try dsimp only at hH)
 refine wpAnyH_ready (rs := [7, 17]) (by kernel_rfl) (by simp) ?_
 refine arc (some 18) (fun K hK => ?_) ?_
 {
 go_simp
 (refine (O1.out _).mono ?_; rintro e w' ⟨rfl, hb⟩)
 (replace hAbA := hAbA.call hb)
 refine hK.out _ _ ?_ ?_
 · (exact ⟨hH.1.call hb, hH.2.1.call hb, hH.2.2.1.call hb, hH.2.2.2.1.call hb, bwS hH.2.2.2.2 (Nat.le_refl _) hb⟩)
 (try clear hH); (try clear hb)
 intro hH
 clear hK K
 (try simp only [cq])
 exact X2_0 bA w' ⟨hH, hAbA, hNbA1⟩
 }
 refine arc (some 8) (fun K hK => ?_) ?_
 {
 (have hNbE1 := hH.2.2.2.1.lt; (try simp only [World.drew] at hNbE1))
 have zzbA := hAbA.lt
 go_simp
 first | refine oA hK ?_ (fun hH hA => ?_) | refine oD hK ?_ (fun hH hA => ?_)
 · exact ⟨hH.1.alloc _, hH.2.1.alloc _, hH.2.2.1.alloc _, hH.2.2.2.1.alloc _, bwA hH.2.2.2.2 (Nat.le_refl _) _⟩
 clear hK K
 (try simp only [cq])
 obtain ⟨bE, hbA⟩ : ∃ b, Blk.num hA = b := ⟨_, rfl⟩
 obtain ⟨W, hW⟩ : ∃ V, Blk.wld hA = V := ⟨_, rfl⟩
 simp only [Blk.num] at hbA
 simp only [Blk.wld] at hW
 first | replace hAbA := awB hW hAbA | replace hAbA := awD hW hAbA
 rw [hW] at hH hA ⊢
 rw [hbA] at hA ⊢
 replace hNbE1 : w.heap.size + 1 + 1 + 1 < bE := (by rw [← hbA]; exact hNbE1)
 have hPbAbE : bA ≠ bE := (by (try simp only [World.drew] at zzbA hbA); omega)
 clear hW hbA zzbA
 have hAbE := hA
 clear hA
 exact X1_01 bA bE W ⟨hH, hAbA, hAbE, hNbA1, hNbE1, hPbAbE⟩
 }
 exact AllReadyH.nil
 }
 }
 {
 intro bA bE W hall
 obtain ⟨hH, hAbA, hAbE, hNbA1, hNbE1, hPbAbE⟩ := hall
 (try dsimp only at hH)
 refine wpAnyH_ready (rs := [2]) (by kernel_rfl) (by simp) ?_
 refine arc1 (some 13) fun K hK => ?_
 go_simp
 (refine (E1.out _).mono ?_; rintro e w' ⟨rfl, hb⟩)
 (replace hAbA := hAbA.call hb)
 (replace hAbE := hAbE.call hb)
 refine hK.out _ _ ?_ ?_
 · (exact ⟨hH.1.call hb, hH.2.1.call hb, hH.2.2.1.call hb, hH.2.2.2.1.call hb, bwS hH.2.2.2.2 (Nat.le_refl _) hb⟩)
 (try clear hH); (try clear hb)
 intro hH
 clear hK K
 (try simp only [cq])
 exact X1_01 bA bE w' ⟨hH, hAbA, hAbE, hNbA1, hNbE1, hPbAbE⟩
 }
 }
 {
 intro bE W hall
 obtain ⟨hH, hAbE, hNbE1⟩ := hall
 (try dsimp only at hH)
 refine wpAnyH_ready (rs := [10, 16]) (by kernel_rfl) (by simp) ?_
 refine arc (some 21) (fun K hK => ?_) ?_
 {
 go_simp
 (refine (E2.out _).mono ?_; rintro e w' ⟨rfl, hb⟩)
 (replace hAbE := hAbE.call hb)
 refine hK.out _ _ ?_ ?_
 · (exact ⟨hH.1.call hb, hH.2.1.call hb, hH.2.2.1.call hb, hH.2.2.2.1.call hb, bwS hH.2.2.2.2 (Nat.le_refl _) hb⟩)
 (try clear hH); (try clear hb)
 intro hH
 clear hK K
 (try simp only [cq])
 exact X3_1 bE w' ⟨hH, hAbE, hNbE1⟩
 }
 refine arc (some 7) (fun K hK => ?_) ?_
 {
 (have hNbA1 := hH.2.2.2.1.lt; (try simp only [World.drew] at hNbA1))
 have zzbE := hAbE.lt
 go_simp
 first | refine oA hK ?_ (fun hH hA => ?_) | refine oD hK ?_ (fun hH hA => ?_)
 · exact ⟨hH.1.alloc _, hH.2.1.alloc _, hH.2.2.1.alloc _, hH.2.2.2.1.alloc _, bwA hH.2.2.2.2 (Nat.le_refl _) _⟩
 clear hK K
 (try simp only [cq])
 obtain ⟨bA, hbA⟩ : ∃ b, Blk.num hA = b := ⟨_, rfl⟩
 obtain ⟨W, hW⟩ : ∃ V, Blk.wld hA = V := ⟨_, rfl⟩
 simp only [Blk.num] at hbA
 simp only [Blk.wld] at hW
 first | replace hAbE := awB hW hAbE | replace hAbE := awD hW hAbE
 rw [hW] at hH hA ⊢
 rw [hbA] at hA ⊢
 replace hNbA1 : w.heap.size + 1 + 1 + 1 < bA := (by rw [← hbA]; exact hNbA1)
 have hPbAbE : bA ≠ bE := (by (try simp only [World.drew] at zzbE hbA); omega)
 clear hW hbA zzbE
 have hAbA := hA
 clear hA
 exact X2_01 bA bE W ⟨hH, hAbA, hAbE, hNbA1, hNbE1, hPbAbE⟩
 }
 exact AllReadyH.nil
 }
 }
 {
 intro bA W hall
 obtain ⟨hH, hAbA, hNbA1⟩ := hall
 (try dsimp only at hH)
 refine wpAnyH_ready (rs := [10, 17]) (by kernel_rfl) (by simp) ?_
 refine arc (some 21) (fun K hK => ?_) ?_
 {
 go_simp
 (refine (E2.out _).mono ?_; rintro e w' ⟨rfl, hb⟩)
 (replace hAbA := hAbA.call hb)
 refine hK.out _ _ ?_ ?_
 · (exact ⟨hH.1.call hb, hH.2.1.call hb, hH.2.2.1.call hb, hH.2.2.2.1.call hb, bwS hH.2.2.2.2 (Nat.le_refl _) hb⟩)
 (try clear hH); (try clear hb)
 intro hH
 clear hK K
 (try simp only [cq])
 exact X3_0 bA w' ⟨hH, hAbA, hNbA1⟩
 }
 refine arc (some 8) (fun K hK => ?_) ?_
 {
 (have hNbE1 := hH.2.2.2.1.lt; (try simp only [World.drew] at hNbE1))
 have zzbA := hAbA.lt
 go_simp
 first | refine oA hK ?_ (fun hH hA => ?_) | refine oD hK ?_ (fun hH hA => ?_)
 · exact ⟨hH.1.alloc _, hH.2.1.alloc _, hH.2.2.1.alloc _, hH.2.2.2.1.alloc _, bwA hH.2.2.2.2 (Nat.le_refl _) _⟩
 clear hK K
 (try simp only [cq])
 obtain ⟨bE, hbA⟩ : ∃ b, Blk.num hA = b := ⟨_, rfl⟩
 obtain ⟨W, hW⟩ : ∃ V, Blk.wld hA = V := ⟨_, rfl⟩
 simp only [Blk.num] at hbA
 simp only [Blk.wld] at hW
 first | replace hAbA := awB hW hAbA | replace hAbA := awD hW hAbA
 rw [hW] at hH hA ⊢
 rw [hbA] at hA ⊢
 replace hNbE1 : w.heap.size + 1 + 1 + 1 < bE := (by rw [← hbA]; exact hNbE1)
 have hPbAbE : bA ≠ bE := (by (try simp only [World.drew] at zzbA hbA); omega)
 clear hW hbA zzbA
 have hAbE := hA
 clear hA
 exact X2_01 bA bE W ⟨hH, hAbA, hAbE, hNbA1, hNbE1, hPbAbE⟩
 }
 exact AllReadyH.nil
 }
 }
 {
 intro bA bE W hall
 obtain ⟨hH, hAbA, hAbE, hNbA1, hNbE1, hPbAbE⟩ := hall
 (try dsimp only at hH)
 refine wpAnyH_ready (rs := [7]) (by kernel_rfl) (by simp) ?_
 refine arc1 (some 18) fun K hK => ?_
 go_simp
 (refine (O1.out _).mono ?_; rintro e w' ⟨rfl, hb⟩)
 (replace hAbA := hAbA.call hb)
 (replace hAbE := hAbE.call hb)
 refine hK.out _ _ ?_ ?_
 · (exact ⟨hH.1.call hb, hH.2.1.call hb, hH.2.2.1.call hb, hH.2.2.2.1.call hb, bwS hH.2.2.2.2 (Nat.le_refl _) hb⟩)
 (try clear hH); (try clear hb)
 intro hH
 clear hK K
 (try simp only [cq])
 exact X2_01 bA bE w' ⟨hH, hAbA, hAbE, hNbA1, hNbE1, hPbAbE⟩
 }
 }
 {
 intro bE W hall
 obtain ⟨hH, hAbE, hNbE1⟩ := hall
 (try dsimp only at hH)
 refine wpAnyH_ready (rs := [15, 16]) (by kernel_rfl) (by simp) ?_
 refine arc (some 26) (fun K hK => ?_) ?_
 {
 go_simp
 (refine (O2.out _).mono ?_; rintro e w' ⟨rfl, hb⟩)
 (replace hAbE := hAbE.call hb)
 refine hK.out _ _ ?_ ?_
 · (exact ⟨hH.1.call hb, hH.2.1.call hb, hH.2.2.1.call hb, hH.2.2.2.1.call hb, bwS hH.2.2.2.2 (Nat.le_refl _) hb⟩)
 (try clear hH); (try clear hb)
 intro hH
 clear hK K
 (try simp only [cq])
 exact X4_1 bE w' ⟨hH, hAbE, hNbE1⟩
 }
 refine arc (some 7) (fun K hK => ?_) ?_
 {
 (have hNbA1 := hH.2.2.2.1.lt; (try simp only [World.drew] at hNbA1))
 have zzbE := hAbE.lt
 go_simp
 first | refine oA hK ?_ (fun hH hA => ?_) | refine oD hK ?_ (fun hH hA => ?_)
 · exact ⟨hH.1.alloc _, hH.2.1.alloc _, hH.2.2.1.alloc _, hH.2.2.2.1.alloc _, bwA hH.2.2.2.2 (Nat.le_refl _) _⟩
 clear hK K
 (try simp only [cq])
 obtain ⟨bA, hbA⟩ : ∃ b, Blk.num hA = b := ⟨_, rfl⟩
 obtain ⟨W, hW⟩ : ∃ V, Blk.wld hA = V := ⟨_, rfl⟩
 simp only [Blk.num] at hbA
 simp only [Blk.wld] at hW
 first | replace hAbE := awB hW hAbE | replace hAbE := awD hW hAbE
 rw [hW] at hH hA ⊢
 rw [hbA] at hA ⊢
 replace hNbA1 : w.heap.size + 1 + 1 + 1 < bA := (by rw [← hbA]; exact hNbA1)
 have hPbAbE : bA ≠ bE := (by (try simp only [World.drew] at zzbE hbA); omega)
 clear hW hbA zzbE
 have hAbA := hA
 clear hA
 exact X3_01 bA bE W ⟨hH, hAbA, hAbE, hNbA1, hNbE1, hPbAbE⟩
 }
 exact AllReadyH.nil
 }
 }
 {
 intro bA W hall
 obtain ⟨hH, hAbA, hNbA1⟩ := hall
 (try dsimp only at hH)
 refine wpAnyH_ready (rs := [15, 17]) (by kernel_rfl) (by simp) ?_
 refine arc (some 26) (fun K hK => ?_) ?_
 {
 go_simp
 (refine (O2.out _).mono ?_; rintro e w' ⟨rfl, hb⟩)
 (replace hAbA := hAbA.call hb)
 refine hK.out _ _ ?_ ?_
 · (exact ⟨hH.1.call hb, hH.2.1.call hb, hH.2.2.1.call hb, hH.2.2.2.1.call hb, bwS hH.2.2.2.2 (Nat.le_refl _) hb⟩)
 (try clear hH); (try clear hb)
 intro hH
 clear hK K
 (try simp only [cq])
 exact X4_0 bA w' ⟨hH, hAbA, hNbA1⟩
 }
 refine arc (some 8) (fun K hK => ?_) ?_
 {
 (have hNbE1 := hH.2.2.2.1.lt; (try simp only [World.drew] at hNbE1))
 have zzbA := hAbA.lt
 go_simp
 first | refine oA hK ?_ (fun hH hA => ?_) | refine oD hK ?_ (fun hH hA => ?_)
 · exact ⟨hH.1.alloc _, hH.2.1.alloc _, hH.2.2.1.alloc _, hH.2.2.2.1.alloc _, bwA hH.2.2.2.2 (Nat.le_refl _) _⟩
 clear hK K
 (try simp only [cq])
 obtain ⟨bE, hbA⟩ : ∃ b, Blk.num hA = b := ⟨_, rfl⟩
 obtain ⟨W, hW⟩ : ∃ V, Blk.wld hA = V := ⟨_, rfl⟩
 simp only [Blk.num] at hbA
 simp only [Blk.wld] at hW
 first | replace hAbA := awB hW hAbA | replace hAbA := awD hW hAbA
 rw [hW] at hH hA ⊢
 rw [hbA] at hA ⊢
 replace hNbE1 : w.heap.size + 1 + 1 + 1 < bE := (by rw [← hbA]; exact hNbE1)
 have hPbAbE : bA ≠ bE := (by (try simp only [World.drew] at zzbA hbA); omega)
 clear hW hbA zzbA
 have hAbE := hA
 clear hA
 exact X3_01 bA bE W ⟨hH, hAbA, hAbE, hNbA1, hNbE1, hPbAbE⟩
 }
 exact AllReadyH.nil
 }
 }
 {
 intro bA bE W hall
 obtain ⟨hH, hAbA, hAbE, hNbA1, hNbE1, hPbAbE⟩ := hall
 (try dsimp only at hH)
 refine wpAnyH_ready (rs := [10]) (by kernel_rfl) (by simp) ?_
 refine arc1 (some 21) fun K hK => ?_
 go_simp
 (refine (E2.out _).mono ?_; rintro e w' ⟨rfl, hb⟩)
 (replace hAbA := hAbA.call hb)
 (replace hAbE := hAbE.call hb)
 refine hK.out _ _ ?_ ?_
 · (exact ⟨hH.1.call hb, hH.2.1.call hb, hH.2.2.1.call hb, hH.2.2.2.1.call hb, bwS hH.2.2.2.2 (Nat.le_refl _) hb⟩)
 (try clear hH); (try clear hb)
 intro hH
 clear hK K
 (try simp only [cq])
 exact X3_01 bA bE w' ⟨hH, hAbA, hAbE, hNbA1, hNbE1, hPbAbE⟩
 }
 }
 {
 intro bE W hall
 obtain ⟨hH, hAbE, hNbE1⟩ := hall
 (try dsimp only at hH)
 refine wpAnyH_ready (rs := [16]) (by kernel_rfl) (by simp) ?_
 refine arc1 (some 7) fun K hK => ?_
 (have hNbA1 := hH.2.2.2.1.lt; (try simp only [World.drew] at hNbA1))
 have zzbE := hAbE.lt
 go_simp
 first | refine oA hK ?_ (fun hH hA => ?_) | refine oD hK ?_ (fun hH hA => ?_)
 · exact ⟨hH.1.alloc _, hH.2.1.alloc _, hH.2.2.1.alloc _, hH.2.2.2.1.alloc _, bwA hH.2.2.2.2 (Nat.le_refl _) _⟩
 clear hK K
 (try simp only [cq])
 obtain ⟨bA, hbA⟩ : ∃ b, Blk.num hA = b := ⟨_, rfl⟩
 obtain ⟨W, hW⟩ : ∃ V, Blk.wld hA = V := ⟨_, rfl⟩
 simp only [Blk.num] at hbA
 simp only [Blk.wld] at hW
 first | replace hAbE := awB hW hAbE | replace hAbE := awD hW hAbE
 rw [hW] at hH hA ⊢
 rw [hbA] at hA ⊢
 replace hNbA1 : w.heap.size + 1 + 1 + 1 < bA := (by rw [← hbA]; exact hNbA1)
 have hPbAbE : bA ≠ bE := (by (try simp only [World.drew] at zzbE hbA); omega)
 clear hW hbA zzbE
 have hAbA := hA
 clear hA
 exact X4_01 bA bE W ⟨hH, hAbA, hAbE, hNbA1, hNbE1, hPbAbE⟩
 }
 }
 {
 intro bA W hall
 obtain ⟨hH, hAbA, hNbA1⟩ := hall
 (try dsimp only at hH)
 refine wpAnyH_ready (rs := [17]) (by kernel_rfl) (by simp) ?_
 refine arc1 (some 8) fun K hK => ?_
 (have hNbE1 := hH.2.2.2.1.lt; (try simp only [World.drew] at hNbE1))
 have zzbA := hAbA.lt
 go_simp
 first | refine oA hK ?_ (fun hH hA => ?_) | refine oD hK ?_ (fun hH hA => ?_)
 · exact ⟨hH.1.alloc _, hH.2.1.alloc _, hH.2.2.1.alloc _, hH.2.2.2.1.alloc _, bwA hH.2.2.2.2 (Nat.le_refl _) _⟩
 clear hK K
 (try simp only [cq])
 obtain ⟨bE, hbA⟩ : ∃ b, Blk.num hA = b := ⟨_, rfl⟩
 obtain ⟨W, hW⟩ : ∃ V, Blk.wld hA = V := ⟨_, rfl⟩
 simp only [Blk.num] at hbA
 simp only [Blk.wld] at hW
 first | replace hAbA := awB hW hAbA | replace hAbA := awD hW hAbA
 rw [hW] at hH hA ⊢
 rw [hbA] at hA ⊢
 replace hNbE1 : w.heap.size + 1 + 1 + 1 < bE := (by rw [← hbA]; exact hNbE1)
 have hPbAbE : bA ≠ bE := (by (try simp only [World.drew] at zzbA hbA); omega)
 clear hW hbA zzbA
 have hAbE := hA
 clear hA
 exact X4_01 bA bE W ⟨hH, hAbA, hAbE, hNbA1, hNbE1, hPbAbE⟩
 }
 }
 {
 intro bA bE W hall
 obtain ⟨hH, hAbA, hAbE, hNbA1, hNbE1, hPbAbE⟩ := hall
 (try dsimp only at hH)
 refine wpAnyH_ready (rs := [15]) (by kernel_rfl) (by simp) ?_
 refine arc1 (some 26) fun K hK => ?_
 go_simp
 (refine (O2.out _).mono ?_; rintro e w' ⟨rfl, hb⟩)
 (replace hAbA := hAbA.call hb)
 (replace hAbE := hAbE.call hb)
 refine hK.out _ _ ?_ ?_
 · (exact ⟨hH.1.call hb, hH.2.1.call hb, hH.2.2.1.call hb, hH.2.2.2.1.call hb, bwS hH.2.2.2.2 (Nat.le_refl _) hb⟩)
 (try clear hH); (try clear hb)
 intro hH
 clear hK K
 (try simp only [cq])
 exact X4_01 bA bE w' ⟨hH, hAbA, hAbE, hNbA1, hNbE1, hPbAbE⟩
 }
 }
 {
 intro bA bE W hall
 obtain ⟨hH, hAbA, hAbE, hNbA1, hNbE1, hPbAbE⟩ := hall
 (try dsimp only at hH)
 refine wpAnyH_ready (rs := [18]) (by kernel_rfl) (by simp) ?_
 refine arc1 none fun K hK => ?_
 obtain ⟨r0, r1, r2, r3⟩ := hAbA.c4
 have fr0 := hAbA.free 0
 have fr1 := hAbA.free 1
 have fr2 := hAbA.free 2
 have fr3 := hAbA.free 3
 have zR := hAbA.lt
 replace hAbE := hAbE.other4 (c := bA) (by omega) (.int .i64 o.b0) (.int .i64 o.w0) (.int .i64 o.q0) (.int .i64 o.s0)
 replace hAbA := hAbA.set4 (.int .i64 o.b0) (.int .i64 o.w0) (.int .i64 o.q0) (.int .i64 o.s0)
 go_simp
 refine hK.out _ _ ?_ ?_
 · with_reducible exact ⟨hH.1.other4 (by omega) _ _ _ _, hH.2.1.other4 (by omega) _ _ _ _, hH.2.2.1.other4 (by omega) _ _ _ _, hH.2.2.2.1.other4 (by omega) _ _ _ _, below_set4 hH.2.2.2.2 (by omega) _ _ _ _⟩
 (try clear hH); (try clear hb)
 intro hH
 clear r0 fr0 r1 fr1 r2 fr2 r3 fr3 zR
 clear hK K
 (try simp only [cq])
 refine wpAnyH_ready (rs := [19]) (by kernel_rfl) (by simp) ?_
 refine arc1 none fun K hK => ?_
 obtain ⟨r0, r1, r2, r3⟩ := hAbE.c4
 have fr0 := hAbE.free 0
 have fr1 := hAbE.free 1
 have fr2 := hAbE.free 2
 have fr3 := hAbE.free 3
 have zR := hAbE.lt
 replace hAbA := hAbA.other4 (c := bE) (by omega) (.int .i64 o.b1) (.int .i64 o.w1) (.int .i64 o.q1) (.int .i64 o.s1)
 replace hAbE := hAbE.set4 (.int .i64 o.b1) (.int .i64 o.w1) (.int .i64 o.q1) (.int .i64 o.s1)
 go_simp
 refine hK.out _ _ ?_ ?_
 · with_reducible exact ⟨hH.1.other4 (by omega) _ _ _ _, hH.2.1.other4 (by omega) _ _ _ _, hH.2.2.1.other4 (by omega) _ _ _ _, hH.2.2.2.1.other4 (by omega) _ _ _ _, below_set4 hH.2.2.2.2 (by omega) _ _ _ _⟩
 (try clear hH); (try clear hb)
 intro hH
 clear r0 fr0 r1 fr1 r2 fr2 r3 fr3 zR
 clear hK K
 (try simp only [cq])
 refine wpAnyH_done (by kernel_rfl) ?_ _
 (try dsimp only [Act.put])
 (try simp only [cq])
 go_wp2_with fail
 go_meet
 exact ⟨bA, bE, rfl, rfl, hAbA, hAbE, hNbA1, hNbE1, hH.1, hH.2.1, hH.2.2.1, hH.2.2.2.1, hH.2.2.2.2⟩
 } )
  case rest =>
    obtain ⟨bS, bT, rfl, rfl, mC, mE, nC, nE, j0, j1, j2, j3, jB⟩ := hcut
    obtain ⟨V, hVV⟩ : ∃ V, V = wc := ⟨_, rfl⟩
    subst hVV
    have zj : w.heap.size + 1 + 1 + 1 < V.heap.size := by
      obtain ⟨_, _, _, _, _, _, _, _, h⟩ := j3
      exact h.lt
    clear E1 E2 O1 O2 j1
    obtain ⟨l0, l1, l2, l3, l4, l5, l6, l7⟩ := j0.c8
    obtain ⟨u0, u1, u2, u3, u4, u5⟩ := j2.c6
    obtain ⟨a0, a1, a2, a3⟩ := mC.c4
    obtain ⟨h0, h1, h2, h3⟩ := mE.c4
    have zL := j0.lt
    have zD := j2.lt
    have zC := mC.lt
    have zE := mE.lt
    go_upto_region 6 with fail
    clear l0 l1 l2 l3 l4 l5 l6 l7 u0 u1 u2 u3 u4 u5 a0 a1 a2 a3 h0 h1 h2 h3 zL zD zC zE
    obtain ⟨B3, hB3⟩ : ∃ q, V.heap.size = q := ⟨_, rfl⟩
    have HB3 := Lib.hid hB3
    have zwB : w.heap.size ≤ B3 := by have := jB.size; omega
    have zB3 : B3 ≤ V.heap.size := by omega
    clear hB3
    go_cut [9, 10] (fun s9 s10 wx => ∃ bB bD : Nat, s9 = .pointer (some ⟨bB, 0, none⟩) ∧ s10 = .pointer (some ⟨bD, 0, none⟩) ∧ B3 ≤ bB ∧ B3 ≤ bD ∧ bB ≠ bD ∧ Blk wx bB #[.int .i64 f.b0, .int .i64 f.b1, .int .i64 f.w0, .int .i64 f.w1, .int .i64 f.q0, .int .i64 f.q1, .int .i64 f.s0, .int .i64 f.s1] 28 ∧ Blk wx bD #[.int .i64 m.b0, .int .i64 m.b1, .int .i64 m.w0, .int .i64 m.w1, .int .i64 m.q0, .int .i64 m.q1, .int .i64 m.s0, .int .i64 m.s1] 28 ∧ Below B3 V wx)
    case first =>
      (
 refine wp_region_held_drew (S := (fun w' => Below B3 V w')) (by kernel_rfl) ?_ (fun hH => ?_)
 · (try dsimp only); (exact (Below.refl _ _).drew)
 refine tkY 0 (some 57) ?_ ?_ ?_
 rotate_left
 · intro w hS0; (try dsimp only at hS0); have hS2 := hS0; rw [← HB3.out] at hS2; have kl := j0.call hS2; have ka := mC.call hS2; have kh := mE.call hS2; have kd := j2.call hS2; obtain ⟨l0, l1, l2, l3, l4, l5, l6, l7⟩ := kl.c8; obtain ⟨a0, a1, a2, a3⟩ := ka.c4; obtain ⟨h0, h1, h2, h3⟩ := kh.c4; obtain ⟨u0, u1, u2, u3, u4, u5⟩ := kd.c6; have y1 := kl.lt; have y2 := ka.lt; have y3 := kh.lt; have y4 := kd.lt;go_simp; (try with_reducible rfl)
 (try simp only [cq])
 refine tkY 1 (some 58) ?_ ?_ ?_
 rotate_left
 · intro w hS0; (try dsimp only at hS0); have hS2 := hS0; rw [← HB3.out] at hS2; have kl := j0.call hS2; have ka := mC.call hS2; have kh := mE.call hS2; have kd := j2.call hS2; obtain ⟨l0, l1, l2, l3, l4, l5, l6, l7⟩ := kl.c8; obtain ⟨a0, a1, a2, a3⟩ := ka.c4; obtain ⟨h0, h1, h2, h3⟩ := kh.c4; obtain ⟨u0, u1, u2, u3, u4, u5⟩ := kd.c6; have y1 := kl.lt; have y2 := ka.lt; have y3 := kh.lt; have y4 := kd.lt;go_simp; (try with_reducible rfl)
 (try simp only [cq])
 refine tkY 2 (some 59) ?_ ?_ ?_
 rotate_left
 · intro w hS0; (try dsimp only at hS0); have hS2 := hS0; rw [← HB3.out] at hS2; have kl := j0.call hS2; have ka := mC.call hS2; have kh := mE.call hS2; have kd := j2.call hS2; obtain ⟨l0, l1, l2, l3, l4, l5, l6, l7⟩ := kl.c8; obtain ⟨a0, a1, a2, a3⟩ := ka.c4; obtain ⟨h0, h1, h2, h3⟩ := kh.c4; obtain ⟨u0, u1, u2, u3, u4, u5⟩ := kd.c6; have y1 := kl.lt; have y2 := ka.lt; have y3 := kh.lt; have y4 := kd.lt;go_simp; (try with_reducible rfl)
 (try simp only [cq])
 refine tkY 3 (some 60) ?_ ?_ ?_
 rotate_left
 · intro w hS0; (try dsimp only at hS0); have hS2 := hS0; rw [← HB3.out] at hS2; have kl := j0.call hS2; have ka := mC.call hS2; have kh := mE.call hS2; have kd := j2.call hS2; obtain ⟨l0, l1, l2, l3, l4, l5, l6, l7⟩ := kl.c8; obtain ⟨a0, a1, a2, a3⟩ := ka.c4; obtain ⟨h0, h1, h2, h3⟩ := kh.c4; obtain ⟨u0, u1, u2, u3, u4, u5⟩ := kd.c6; have y1 := kl.lt; have y2 := ka.lt; have y3 := kh.lt; have y4 := kd.lt;go_simp; (try with_reducible rfl)
 (try simp only [cq])
 refine tkY 4 (some 61) ?_ ?_ ?_
 rotate_left
 · intro w hS0; (try dsimp only at hS0); have hS2 := hS0; rw [← HB3.out] at hS2; have kl := j0.call hS2; have ka := mC.call hS2; have kh := mE.call hS2; have kd := j2.call hS2; obtain ⟨l0, l1, l2, l3, l4, l5, l6, l7⟩ := kl.c8; obtain ⟨a0, a1, a2, a3⟩ := ka.c4; obtain ⟨h0, h1, h2, h3⟩ := kh.c4; obtain ⟨u0, u1, u2, u3, u4, u5⟩ := kd.c6; have y1 := kl.lt; have y2 := ka.lt; have y3 := kh.lt; have y4 := kd.lt;go_simp; (try with_reducible rfl)
 (try simp only [cq])
 refine tkY 5 (some 62) ?_ ?_ ?_
 rotate_left
 · intro w hS0; (try dsimp only at hS0); have hS2 := hS0; rw [← HB3.out] at hS2; have kl := j0.call hS2; have ka := mC.call hS2; have kh := mE.call hS2; have kd := j2.call hS2; obtain ⟨l0, l1, l2, l3, l4, l5, l6, l7⟩ := kl.c8; obtain ⟨a0, a1, a2, a3⟩ := ka.c4; obtain ⟨h0, h1, h2, h3⟩ := kh.c4; obtain ⟨u0, u1, u2, u3, u4, u5⟩ := kd.c6; have y1 := kl.lt; have y2 := ka.lt; have y3 := kh.lt; have y4 := kd.lt;go_simp; (try with_reducible rfl)
 (try simp only [cq])
 refine tkY 7 (some 64) ?_ ?_ ?_
 rotate_left
 · intro w hS0; (try dsimp only at hS0); have hS2 := hS0; rw [← HB3.out] at hS2; have kl := j0.call hS2; have ka := mC.call hS2; have kh := mE.call hS2; have kd := j2.call hS2; obtain ⟨l0, l1, l2, l3, l4, l5, l6, l7⟩ := kl.c8; obtain ⟨a0, a1, a2, a3⟩ := ka.c4; obtain ⟨h0, h1, h2, h3⟩ := kh.c4; obtain ⟨u0, u1, u2, u3, u4, u5⟩ := kd.c6; have y1 := kl.lt; have y2 := ka.lt; have y3 := kh.lt; have y4 := kd.lt;go_simp; (try with_reducible rfl)
 (try simp only [cq])
 refine tkY 8 (some 65) ?_ ?_ ?_
 rotate_left
 · intro w hS0; (try dsimp only at hS0); have hS2 := hS0; rw [← HB3.out] at hS2; have kl := j0.call hS2; have ka := mC.call hS2; have kh := mE.call hS2; have kd := j2.call hS2; obtain ⟨l0, l1, l2, l3, l4, l5, l6, l7⟩ := kl.c8; obtain ⟨a0, a1, a2, a3⟩ := ka.c4; obtain ⟨h0, h1, h2, h3⟩ := kh.c4; obtain ⟨u0, u1, u2, u3, u4, u5⟩ := kd.c6; have y1 := kl.lt; have y2 := ka.lt; have y3 := kh.lt; have y4 := kd.lt;go_simp; (try with_reducible rfl)
 (try simp only [cq])
 refine tkY 9 (some 66) ?_ ?_ ?_
 rotate_left
 · intro w hS0; (try dsimp only at hS0); have hS2 := hS0; rw [← HB3.out] at hS2; have kl := j0.call hS2; have ka := mC.call hS2; have kh := mE.call hS2; have kd := j2.call hS2; obtain ⟨l0, l1, l2, l3, l4, l5, l6, l7⟩ := kl.c8; obtain ⟨a0, a1, a2, a3⟩ := ka.c4; obtain ⟨h0, h1, h2, h3⟩ := kh.c4; obtain ⟨u0, u1, u2, u3, u4, u5⟩ := kd.c6; have y1 := kl.lt; have y2 := ka.lt; have y3 := kh.lt; have y4 := kd.lt;go_simp; (try with_reducible rfl)
 (try simp only [cq])
 refine tkY 10 (some 67) ?_ ?_ ?_
 rotate_left
 · intro w hS0; (try dsimp only at hS0); have hS2 := hS0; rw [← HB3.out] at hS2; have kl := j0.call hS2; have ka := mC.call hS2; have kh := mE.call hS2; have kd := j2.call hS2; obtain ⟨l0, l1, l2, l3, l4, l5, l6, l7⟩ := kl.c8; obtain ⟨a0, a1, a2, a3⟩ := ka.c4; obtain ⟨h0, h1, h2, h3⟩ := kh.c4; obtain ⟨u0, u1, u2, u3, u4, u5⟩ := kd.c6; have y1 := kl.lt; have y2 := ka.lt; have y3 := kh.lt; have y4 := kd.lt;go_simp; (try with_reducible rfl)
 (try simp only [cq])
 refine tkY 11 (some 68) ?_ ?_ ?_
 rotate_left
 · intro w hS0; (try dsimp only at hS0); have hS2 := hS0; rw [← HB3.out] at hS2; have kl := j0.call hS2; have ka := mC.call hS2; have kh := mE.call hS2; have kd := j2.call hS2; obtain ⟨l0, l1, l2, l3, l4, l5, l6, l7⟩ := kl.c8; obtain ⟨a0, a1, a2, a3⟩ := ka.c4; obtain ⟨h0, h1, h2, h3⟩ := kh.c4; obtain ⟨u0, u1, u2, u3, u4, u5⟩ := kd.c6; have y1 := kl.lt; have y2 := ka.lt; have y3 := kh.lt; have y4 := kd.lt;go_simp; (try with_reducible rfl)
 (try simp only [cq])
 refine tkY 12 (some 69) ?_ ?_ ?_
 rotate_left
 · intro w hS0; (try dsimp only at hS0); have hS2 := hS0; rw [← HB3.out] at hS2; have kl := j0.call hS2; have ka := mC.call hS2; have kh := mE.call hS2; have kd := j2.call hS2; obtain ⟨l0, l1, l2, l3, l4, l5, l6, l7⟩ := kl.c8; obtain ⟨a0, a1, a2, a3⟩ := ka.c4; obtain ⟨h0, h1, h2, h3⟩ := kh.c4; obtain ⟨u0, u1, u2, u3, u4, u5⟩ := kd.c6; have y1 := kl.lt; have y2 := ka.lt; have y3 := kh.lt; have y4 := kd.lt;go_simp; (try with_reducible rfl)
 (try simp only [cq])
 refine tkY 13 (some 70) ?_ ?_ ?_
 rotate_left
 · intro w _; go_simp; (try with_reducible rfl)
 (try simp only [cq])
 refine wpAnyH_ready (rs := [6, 15, 16]) (by kernel_rfl) (by simp) ?_
 refine arc (some 63) (fun K hK => ?_) ?_
 {
 go_simp
 (refine (C1.out _ (jB.trans (hH.mono zwB))).mono ?_; rintro e w' ⟨rfl, hb⟩)
 refine hK.out _ _ ?_ (fun hH => ?_)
 · (exact hH.trans (hb.mono (by have := hH.size; omega)))
 (try (replace kB := kB.call hb))
 (try (replace kD := kD.call hb))
 clear hb
 clear hK K
 (try simp only [cq])
 refine wpAnyH_ready (rs := [14, 15, 16]) (by kernel_rfl) (by simp) ?_
 refine arc (some 71) (fun K hK => ?_) ?_
 {
 go_simp
 (refine (C2.out _).mono ?_; rintro e w' ⟨rfl, hb⟩)
 refine hK.out _ _ ?_ (fun hH => ?_)
 · (exact hH.trans (hb.mono (by have := hH.size; omega)))
 (try (replace kB := kB.call hb))
 (try (replace kD := kD.call hb))
 clear hb
 clear hK K
 (try simp only [cq])
 refine wpAnyH_ready (rs := [15, 16]) (by kernel_rfl) (by simp) ?_
 refine arc (some 9) (fun K hK => ?_) ?_
 {
 have zz : B3 ≤ _ := Nat.le_trans zB3 hH.size
 (try (have zx := kD.lt))
 go_simp
 first | refine oA hK ?_ (fun hH hA => ?_) | refine oD hK ?_ (fun hH hA => ?_)
 · exact hH.alloc (Nat.le_trans zB3 hH.size) _
 (try (replace kD := kD.alloc (.cells #[.int .i64 0, .int .i64 0, .int .i64 0, .int .i64 0, .int .i64 0, .int .i64 0, .int .i64 0, .int .i64 0] 28)))
 have kB := hA
 clear hA
 obtain ⟨bB, hbB⟩ : ∃ b, Blk.num kB = b := ⟨_, rfl⟩
 obtain ⟨Wn, hWn⟩ : ∃ V, Blk.wld kB = V := ⟨_, rfl⟩
 simp only [Blk.num] at hbB
 simp only [Blk.wld] at hWn
 rw [hWn] at hH kB ⊢
 (try rw [hWn] at kD)
 rw [hbB] at kB ⊢
 replace zz : B3 ≤ bB := by rw [← hbB]; exact zz
 (try (replace zx : bD < bB := by rw [← hbB]; exact zx))
 have zB := zz
 clear zz hbB hWn
 (try (have hne : bB ≠ bD := by omega))
 clear hK K
 (try simp only [cq])
 refine wpAnyH_ready (rs := [16]) (by kernel_rfl) (by simp) ?_
 refine arc1 (some 10) fun K hK => ?_
 have zz : B3 ≤ _ := Nat.le_trans zB3 hH.size
 (try (have zx := kB.lt))
 go_simp
 first | refine oA hK ?_ (fun hH hA => ?_) | refine oD hK ?_ (fun hH hA => ?_)
 · exact hH.alloc (Nat.le_trans zB3 hH.size) _
 (try (replace kB := kB.alloc (.cells #[.int .i64 0, .int .i64 0, .int .i64 0, .int .i64 0, .int .i64 0, .int .i64 0, .int .i64 0, .int .i64 0] 28)))
 have kD := hA
 clear hA
 obtain ⟨bD, hbD⟩ : ∃ b, Blk.num kD = b := ⟨_, rfl⟩
 obtain ⟨Wn, hWn⟩ : ∃ V, Blk.wld kD = V := ⟨_, rfl⟩
 simp only [Blk.num] at hbD
 simp only [Blk.wld] at hWn
 rw [hWn] at hH kD ⊢
 (try rw [hWn] at kB)
 rw [hbD] at kD ⊢
 replace zz : B3 ≤ bD := by rw [← hbD]; exact zz
 (try (replace zx : bB < bD := by rw [← hbD]; exact zx))
 have zD := zz
 clear zz hbD hWn
 (try (have hne : bB ≠ bD := by omega))
 clear hK K
 (try simp only [cq])
 refine wpAnyH_ready (rs := [17]) (by kernel_rfl) (by simp) ?_
 refine arc1 none fun K hK => ?_
 obtain ⟨r0, r1, r2, r3, r4, r5, r6, r7⟩ := kB.c8
 have fr0 := kB.free 0
 have fr1 := kB.free 1
 have fr2 := kB.free 2
 have fr3 := kB.free 3
 have fr4 := kB.free 4
 have fr5 := kB.free 5
 have fr6 := kB.free 6
 have fr7 := kB.free 7
 have zR := kB.lt
 have H1 := Lib.hid (kB.set8 (.int .i64 f.b0) (.int .i64 f.b1) (.int .i64 f.w0) (.int .i64 f.w1) (.int .i64 f.q0) (.int .i64 f.q1) (.int .i64 f.s0) (.int .i64 f.s1))
 have H2 := Lib.hid (kD.other8 (c := bB) (Ne.symm hne) (.int .i64 f.b0) (.int .i64 f.b1) (.int .i64 f.w0) (.int .i64 f.w1) (.int .i64 f.q0) (.int .i64 f.q1) (.int .i64 f.s0) (.int .i64 f.s1))
 have H3 := Lib.hid (below_set8 hH zB (.int .i64 f.b0) (.int .i64 f.b1) (.int .i64 f.w0) (.int .i64 f.w1) (.int .i64 f.q0) (.int .i64 f.q1) (.int .i64 f.s0) (.int .i64 f.s1))
 clear hH
 go_simp
 refine hK.out _ _ ?_ (fun hH => ?_)
 · exact H3.out
 clear r0 r1 r2 r3 r4 r5 r6 r7 fr0 fr1 fr2 fr3 fr4 fr5 fr6 fr7 zR
 replace kB := H1.out
 replace kD := H2.out
 clear H1 H2 H3
 obtain ⟨Wn, hWn⟩ : ∃ V, Blk.wld kB = V := ⟨_, rfl⟩
 simp only [Blk.wld] at hWn
 rw [hWn] at hH kB kD ⊢
 clear hWn
 clear hK K
 (try simp only [cq])
 refine wpAnyH_ready (rs := [18]) (by kernel_rfl) (by simp) ?_
 refine arc1 none fun K hK => ?_
 obtain ⟨r0, r1, r2, r3, r4, r5, r6, r7⟩ := kD.c8
 have fr0 := kD.free 0
 have fr1 := kD.free 1
 have fr2 := kD.free 2
 have fr3 := kD.free 3
 have fr4 := kD.free 4
 have fr5 := kD.free 5
 have fr6 := kD.free 6
 have fr7 := kD.free 7
 have zR := kD.lt
 have H1 := Lib.hid (kD.set8 (.int .i64 m.b0) (.int .i64 m.b1) (.int .i64 m.w0) (.int .i64 m.w1) (.int .i64 m.q0) (.int .i64 m.q1) (.int .i64 m.s0) (.int .i64 m.s1))
 have H2 := Lib.hid (kB.other8 (c := bD) hne (.int .i64 m.b0) (.int .i64 m.b1) (.int .i64 m.w0) (.int .i64 m.w1) (.int .i64 m.q0) (.int .i64 m.q1) (.int .i64 m.s0) (.int .i64 m.s1))
 have H3 := Lib.hid (below_set8 hH zD (.int .i64 m.b0) (.int .i64 m.b1) (.int .i64 m.w0) (.int .i64 m.w1) (.int .i64 m.q0) (.int .i64 m.q1) (.int .i64 m.s0) (.int .i64 m.s1))
 clear hH
 go_simp
 refine hK.out _ _ ?_ (fun hH => ?_)
 · exact H3.out
 clear r0 r1 r2 r3 r4 r5 r6 r7 fr0 fr1 fr2 fr3 fr4 fr5 fr6 fr7 zR
 replace kD := H1.out
 replace kB := H2.out
 clear H1 H2 H3
 obtain ⟨Wn, hWn⟩ : ∃ V, Blk.wld kB = V := ⟨_, rfl⟩
 simp only [Blk.wld] at hWn
 rw [hWn] at hH kB kD ⊢
 clear hWn
 clear hK K
 (try simp only [cq])
 refine wpAnyH_done (by kernel_rfl) ?_ _
 (try dsimp only [Act.put])
 (try simp only [cq])
 go_wp2_with fail
 go_meet
 exact ⟨bB, bD, rfl, rfl, zB, zD, hne, kB, kD, hH⟩
 }
 refine arc (some 10) (fun K hK => ?_) ?_
 {
 have zz : B3 ≤ _ := Nat.le_trans zB3 hH.size
 (try (have zx := kB.lt))
 go_simp
 first | refine oA hK ?_ (fun hH hA => ?_) | refine oD hK ?_ (fun hH hA => ?_)
 · exact hH.alloc (Nat.le_trans zB3 hH.size) _
 (try (replace kB := kB.alloc (.cells #[.int .i64 0, .int .i64 0, .int .i64 0, .int .i64 0, .int .i64 0, .int .i64 0, .int .i64 0, .int .i64 0] 28)))
 have kD := hA
 clear hA
 obtain ⟨bD, hbD⟩ : ∃ b, Blk.num kD = b := ⟨_, rfl⟩
 obtain ⟨Wn, hWn⟩ : ∃ V, Blk.wld kD = V := ⟨_, rfl⟩
 simp only [Blk.num] at hbD
 simp only [Blk.wld] at hWn
 rw [hWn] at hH kD ⊢
 (try rw [hWn] at kB)
 rw [hbD] at kD ⊢
 replace zz : B3 ≤ bD := by rw [← hbD]; exact zz
 (try (replace zx : bB < bD := by rw [← hbD]; exact zx))
 have zD := zz
 clear zz hbD hWn
 (try (have hne : bB ≠ bD := by omega))
 clear hK K
 (try simp only [cq])
 refine wpAnyH_ready (rs := [15]) (by kernel_rfl) (by simp) ?_
 refine arc1 (some 9) fun K hK => ?_
 have zz : B3 ≤ _ := Nat.le_trans zB3 hH.size
 (try (have zx := kD.lt))
 go_simp
 first | refine oA hK ?_ (fun hH hA => ?_) | refine oD hK ?_ (fun hH hA => ?_)
 · exact hH.alloc (Nat.le_trans zB3 hH.size) _
 (try (replace kD := kD.alloc (.cells #[.int .i64 0, .int .i64 0, .int .i64 0, .int .i64 0, .int .i64 0, .int .i64 0, .int .i64 0, .int .i64 0] 28)))
 have kB := hA
 clear hA
 obtain ⟨bB, hbB⟩ : ∃ b, Blk.num kB = b := ⟨_, rfl⟩
 obtain ⟨Wn, hWn⟩ : ∃ V, Blk.wld kB = V := ⟨_, rfl⟩
 simp only [Blk.num] at hbB
 simp only [Blk.wld] at hWn
 rw [hWn] at hH kB ⊢
 (try rw [hWn] at kD)
 rw [hbB] at kB ⊢
 replace zz : B3 ≤ bB := by rw [← hbB]; exact zz
 (try (replace zx : bD < bB := by rw [← hbB]; exact zx))
 have zB := zz
 clear zz hbB hWn
 (try (have hne : bB ≠ bD := by omega))
 clear hK K
 (try simp only [cq])
 refine wpAnyH_ready (rs := [17]) (by kernel_rfl) (by simp) ?_
 refine arc1 none fun K hK => ?_
 obtain ⟨r0, r1, r2, r3, r4, r5, r6, r7⟩ := kB.c8
 have fr0 := kB.free 0
 have fr1 := kB.free 1
 have fr2 := kB.free 2
 have fr3 := kB.free 3
 have fr4 := kB.free 4
 have fr5 := kB.free 5
 have fr6 := kB.free 6
 have fr7 := kB.free 7
 have zR := kB.lt
 have H1 := Lib.hid (kB.set8 (.int .i64 f.b0) (.int .i64 f.b1) (.int .i64 f.w0) (.int .i64 f.w1) (.int .i64 f.q0) (.int .i64 f.q1) (.int .i64 f.s0) (.int .i64 f.s1))
 have H2 := Lib.hid (kD.other8 (c := bB) (Ne.symm hne) (.int .i64 f.b0) (.int .i64 f.b1) (.int .i64 f.w0) (.int .i64 f.w1) (.int .i64 f.q0) (.int .i64 f.q1) (.int .i64 f.s0) (.int .i64 f.s1))
 have H3 := Lib.hid (below_set8 hH zB (.int .i64 f.b0) (.int .i64 f.b1) (.int .i64 f.w0) (.int .i64 f.w1) (.int .i64 f.q0) (.int .i64 f.q1) (.int .i64 f.s0) (.int .i64 f.s1))
 clear hH
 go_simp
 refine hK.out _ _ ?_ (fun hH => ?_)
 · exact H3.out
 clear r0 r1 r2 r3 r4 r5 r6 r7 fr0 fr1 fr2 fr3 fr4 fr5 fr6 fr7 zR
 replace kB := H1.out
 replace kD := H2.out
 clear H1 H2 H3
 obtain ⟨Wn, hWn⟩ : ∃ V, Blk.wld kB = V := ⟨_, rfl⟩
 simp only [Blk.wld] at hWn
 rw [hWn] at hH kB kD ⊢
 clear hWn
 clear hK K
 (try simp only [cq])
 refine wpAnyH_ready (rs := [18]) (by kernel_rfl) (by simp) ?_
 refine arc1 none fun K hK => ?_
 obtain ⟨r0, r1, r2, r3, r4, r5, r6, r7⟩ := kD.c8
 have fr0 := kD.free 0
 have fr1 := kD.free 1
 have fr2 := kD.free 2
 have fr3 := kD.free 3
 have fr4 := kD.free 4
 have fr5 := kD.free 5
 have fr6 := kD.free 6
 have fr7 := kD.free 7
 have zR := kD.lt
 have H1 := Lib.hid (kD.set8 (.int .i64 m.b0) (.int .i64 m.b1) (.int .i64 m.w0) (.int .i64 m.w1) (.int .i64 m.q0) (.int .i64 m.q1) (.int .i64 m.s0) (.int .i64 m.s1))
 have H2 := Lib.hid (kB.other8 (c := bD) hne (.int .i64 m.b0) (.int .i64 m.b1) (.int .i64 m.w0) (.int .i64 m.w1) (.int .i64 m.q0) (.int .i64 m.q1) (.int .i64 m.s0) (.int .i64 m.s1))
 have H3 := Lib.hid (below_set8 hH zD (.int .i64 m.b0) (.int .i64 m.b1) (.int .i64 m.w0) (.int .i64 m.w1) (.int .i64 m.q0) (.int .i64 m.q1) (.int .i64 m.s0) (.int .i64 m.s1))
 clear hH
 go_simp
 refine hK.out _ _ ?_ (fun hH => ?_)
 · exact H3.out
 clear r0 r1 r2 r3 r4 r5 r6 r7 fr0 fr1 fr2 fr3 fr4 fr5 fr6 fr7 zR
 replace kD := H1.out
 replace kB := H2.out
 clear H1 H2 H3
 obtain ⟨Wn, hWn⟩ : ∃ V, Blk.wld kB = V := ⟨_, rfl⟩
 simp only [Blk.wld] at hWn
 rw [hWn] at hH kB kD ⊢
 clear hWn
 clear hK K
 (try simp only [cq])
 refine wpAnyH_done (by kernel_rfl) ?_ _
 (try dsimp only [Act.put])
 (try simp only [cq])
 go_wp2_with fail
 go_meet
 exact ⟨bB, bD, rfl, rfl, zB, zD, hne, kB, kD, hH⟩
 }
 exact AllReadyH.nil
 }
 refine arc (some 9) (fun K hK => ?_) ?_
 {
 have zz : B3 ≤ _ := Nat.le_trans zB3 hH.size
 (try (have zx := kD.lt))
 go_simp
 first | refine oA hK ?_ (fun hH hA => ?_) | refine oD hK ?_ (fun hH hA => ?_)
 · exact hH.alloc (Nat.le_trans zB3 hH.size) _
 (try (replace kD := kD.alloc (.cells #[.int .i64 0, .int .i64 0, .int .i64 0, .int .i64 0, .int .i64 0, .int .i64 0, .int .i64 0, .int .i64 0] 28)))
 have kB := hA
 clear hA
 obtain ⟨bB, hbB⟩ : ∃ b, Blk.num kB = b := ⟨_, rfl⟩
 obtain ⟨Wn, hWn⟩ : ∃ V, Blk.wld kB = V := ⟨_, rfl⟩
 simp only [Blk.num] at hbB
 simp only [Blk.wld] at hWn
 rw [hWn] at hH kB ⊢
 (try rw [hWn] at kD)
 rw [hbB] at kB ⊢
 replace zz : B3 ≤ bB := by rw [← hbB]; exact zz
 (try (replace zx : bD < bB := by rw [← hbB]; exact zx))
 have zB := zz
 clear zz hbB hWn
 (try (have hne : bB ≠ bD := by omega))
 clear hK K
 (try simp only [cq])
 refine wpAnyH_ready (rs := [14, 16]) (by kernel_rfl) (by simp) ?_
 refine arc (some 71) (fun K hK => ?_) ?_
 {
 go_simp
 (refine (C2.out _).mono ?_; rintro e w' ⟨rfl, hb⟩)
 refine hK.out _ _ ?_ (fun hH => ?_)
 · (exact hH.trans (hb.mono (by have := hH.size; omega)))
 (try (replace kB := kB.call hb))
 (try (replace kD := kD.call hb))
 clear hb
 clear hK K
 (try simp only [cq])
 refine wpAnyH_ready (rs := [16]) (by kernel_rfl) (by simp) ?_
 refine arc1 (some 10) fun K hK => ?_
 have zz : B3 ≤ _ := Nat.le_trans zB3 hH.size
 (try (have zx := kB.lt))
 go_simp
 first | refine oA hK ?_ (fun hH hA => ?_) | refine oD hK ?_ (fun hH hA => ?_)
 · exact hH.alloc (Nat.le_trans zB3 hH.size) _
 (try (replace kB := kB.alloc (.cells #[.int .i64 0, .int .i64 0, .int .i64 0, .int .i64 0, .int .i64 0, .int .i64 0, .int .i64 0, .int .i64 0] 28)))
 have kD := hA
 clear hA
 obtain ⟨bD, hbD⟩ : ∃ b, Blk.num kD = b := ⟨_, rfl⟩
 obtain ⟨Wn, hWn⟩ : ∃ V, Blk.wld kD = V := ⟨_, rfl⟩
 simp only [Blk.num] at hbD
 simp only [Blk.wld] at hWn
 rw [hWn] at hH kD ⊢
 (try rw [hWn] at kB)
 rw [hbD] at kD ⊢
 replace zz : B3 ≤ bD := by rw [← hbD]; exact zz
 (try (replace zx : bB < bD := by rw [← hbD]; exact zx))
 have zD := zz
 clear zz hbD hWn
 (try (have hne : bB ≠ bD := by omega))
 clear hK K
 (try simp only [cq])
 refine wpAnyH_ready (rs := [17]) (by kernel_rfl) (by simp) ?_
 refine arc1 none fun K hK => ?_
 obtain ⟨r0, r1, r2, r3, r4, r5, r6, r7⟩ := kB.c8
 have fr0 := kB.free 0
 have fr1 := kB.free 1
 have fr2 := kB.free 2
 have fr3 := kB.free 3
 have fr4 := kB.free 4
 have fr5 := kB.free 5
 have fr6 := kB.free 6
 have fr7 := kB.free 7
 have zR := kB.lt
 have H1 := Lib.hid (kB.set8 (.int .i64 f.b0) (.int .i64 f.b1) (.int .i64 f.w0) (.int .i64 f.w1) (.int .i64 f.q0) (.int .i64 f.q1) (.int .i64 f.s0) (.int .i64 f.s1))
 have H2 := Lib.hid (kD.other8 (c := bB) (Ne.symm hne) (.int .i64 f.b0) (.int .i64 f.b1) (.int .i64 f.w0) (.int .i64 f.w1) (.int .i64 f.q0) (.int .i64 f.q1) (.int .i64 f.s0) (.int .i64 f.s1))
 have H3 := Lib.hid (below_set8 hH zB (.int .i64 f.b0) (.int .i64 f.b1) (.int .i64 f.w0) (.int .i64 f.w1) (.int .i64 f.q0) (.int .i64 f.q1) (.int .i64 f.s0) (.int .i64 f.s1))
 clear hH
 go_simp
 refine hK.out _ _ ?_ (fun hH => ?_)
 · exact H3.out
 clear r0 r1 r2 r3 r4 r5 r6 r7 fr0 fr1 fr2 fr3 fr4 fr5 fr6 fr7 zR
 replace kB := H1.out
 replace kD := H2.out
 clear H1 H2 H3
 obtain ⟨Wn, hWn⟩ : ∃ V, Blk.wld kB = V := ⟨_, rfl⟩
 simp only [Blk.wld] at hWn
 rw [hWn] at hH kB kD ⊢
 clear hWn
 clear hK K
 (try simp only [cq])
 refine wpAnyH_ready (rs := [18]) (by kernel_rfl) (by simp) ?_
 refine arc1 none fun K hK => ?_
 obtain ⟨r0, r1, r2, r3, r4, r5, r6, r7⟩ := kD.c8
 have fr0 := kD.free 0
 have fr1 := kD.free 1
 have fr2 := kD.free 2
 have fr3 := kD.free 3
 have fr4 := kD.free 4
 have fr5 := kD.free 5
 have fr6 := kD.free 6
 have fr7 := kD.free 7
 have zR := kD.lt
 have H1 := Lib.hid (kD.set8 (.int .i64 m.b0) (.int .i64 m.b1) (.int .i64 m.w0) (.int .i64 m.w1) (.int .i64 m.q0) (.int .i64 m.q1) (.int .i64 m.s0) (.int .i64 m.s1))
 have H2 := Lib.hid (kB.other8 (c := bD) hne (.int .i64 m.b0) (.int .i64 m.b1) (.int .i64 m.w0) (.int .i64 m.w1) (.int .i64 m.q0) (.int .i64 m.q1) (.int .i64 m.s0) (.int .i64 m.s1))
 have H3 := Lib.hid (below_set8 hH zD (.int .i64 m.b0) (.int .i64 m.b1) (.int .i64 m.w0) (.int .i64 m.w1) (.int .i64 m.q0) (.int .i64 m.q1) (.int .i64 m.s0) (.int .i64 m.s1))
 clear hH
 go_simp
 refine hK.out _ _ ?_ (fun hH => ?_)
 · exact H3.out
 clear r0 r1 r2 r3 r4 r5 r6 r7 fr0 fr1 fr2 fr3 fr4 fr5 fr6 fr7 zR
 replace kD := H1.out
 replace kB := H2.out
 clear H1 H2 H3
 obtain ⟨Wn, hWn⟩ : ∃ V, Blk.wld kB = V := ⟨_, rfl⟩
 simp only [Blk.wld] at hWn
 rw [hWn] at hH kB kD ⊢
 clear hWn
 clear hK K
 (try simp only [cq])
 refine wpAnyH_done (by kernel_rfl) ?_ _
 (try dsimp only [Act.put])
 (try simp only [cq])
 go_wp2_with fail
 go_meet
 exact ⟨bB, bD, rfl, rfl, zB, zD, hne, kB, kD, hH⟩
 }
 refine arc (some 10) (fun K hK => ?_) ?_
 {
 have zz : B3 ≤ _ := Nat.le_trans zB3 hH.size
 (try (have zx := kB.lt))
 go_simp
 first | refine oA hK ?_ (fun hH hA => ?_) | refine oD hK ?_ (fun hH hA => ?_)
 · exact hH.alloc (Nat.le_trans zB3 hH.size) _
 (try (replace kB := kB.alloc (.cells #[.int .i64 0, .int .i64 0, .int .i64 0, .int .i64 0, .int .i64 0, .int .i64 0, .int .i64 0, .int .i64 0] 28)))
 have kD := hA
 clear hA
 obtain ⟨bD, hbD⟩ : ∃ b, Blk.num kD = b := ⟨_, rfl⟩
 obtain ⟨Wn, hWn⟩ : ∃ V, Blk.wld kD = V := ⟨_, rfl⟩
 simp only [Blk.num] at hbD
 simp only [Blk.wld] at hWn
 rw [hWn] at hH kD ⊢
 (try rw [hWn] at kB)
 rw [hbD] at kD ⊢
 replace zz : B3 ≤ bD := by rw [← hbD]; exact zz
 (try (replace zx : bB < bD := by rw [← hbD]; exact zx))
 have zD := zz
 clear zz hbD hWn
 (try (have hne : bB ≠ bD := by omega))
 clear hK K
 (try simp only [cq])
 refine wpAnyH_ready (rs := [14]) (by kernel_rfl) (by simp) ?_
 refine arc1 (some 71) fun K hK => ?_
 go_simp
 (refine (C2.out _).mono ?_; rintro e w' ⟨rfl, hb⟩)
 refine hK.out _ _ ?_ (fun hH => ?_)
 · (exact hH.trans (hb.mono (by have := hH.size; omega)))
 (try (replace kB := kB.call hb))
 (try (replace kD := kD.call hb))
 clear hb
 clear hK K
 (try simp only [cq])
 refine wpAnyH_ready (rs := [17]) (by kernel_rfl) (by simp) ?_
 refine arc1 none fun K hK => ?_
 obtain ⟨r0, r1, r2, r3, r4, r5, r6, r7⟩ := kB.c8
 have fr0 := kB.free 0
 have fr1 := kB.free 1
 have fr2 := kB.free 2
 have fr3 := kB.free 3
 have fr4 := kB.free 4
 have fr5 := kB.free 5
 have fr6 := kB.free 6
 have fr7 := kB.free 7
 have zR := kB.lt
 have H1 := Lib.hid (kB.set8 (.int .i64 f.b0) (.int .i64 f.b1) (.int .i64 f.w0) (.int .i64 f.w1) (.int .i64 f.q0) (.int .i64 f.q1) (.int .i64 f.s0) (.int .i64 f.s1))
 have H2 := Lib.hid (kD.other8 (c := bB) (Ne.symm hne) (.int .i64 f.b0) (.int .i64 f.b1) (.int .i64 f.w0) (.int .i64 f.w1) (.int .i64 f.q0) (.int .i64 f.q1) (.int .i64 f.s0) (.int .i64 f.s1))
 have H3 := Lib.hid (below_set8 hH zB (.int .i64 f.b0) (.int .i64 f.b1) (.int .i64 f.w0) (.int .i64 f.w1) (.int .i64 f.q0) (.int .i64 f.q1) (.int .i64 f.s0) (.int .i64 f.s1))
 clear hH
 go_simp
 refine hK.out _ _ ?_ (fun hH => ?_)
 · exact H3.out
 clear r0 r1 r2 r3 r4 r5 r6 r7 fr0 fr1 fr2 fr3 fr4 fr5 fr6 fr7 zR
 replace kB := H1.out
 replace kD := H2.out
 clear H1 H2 H3
 obtain ⟨Wn, hWn⟩ : ∃ V, Blk.wld kB = V := ⟨_, rfl⟩
 simp only [Blk.wld] at hWn
 rw [hWn] at hH kB kD ⊢
 clear hWn
 clear hK K
 (try simp only [cq])
 refine wpAnyH_ready (rs := [18]) (by kernel_rfl) (by simp) ?_
 refine arc1 none fun K hK => ?_
 obtain ⟨r0, r1, r2, r3, r4, r5, r6, r7⟩ := kD.c8
 have fr0 := kD.free 0
 have fr1 := kD.free 1
 have fr2 := kD.free 2
 have fr3 := kD.free 3
 have fr4 := kD.free 4
 have fr5 := kD.free 5
 have fr6 := kD.free 6
 have fr7 := kD.free 7
 have zR := kD.lt
 have H1 := Lib.hid (kD.set8 (.int .i64 m.b0) (.int .i64 m.b1) (.int .i64 m.w0) (.int .i64 m.w1) (.int .i64 m.q0) (.int .i64 m.q1) (.int .i64 m.s0) (.int .i64 m.s1))
 have H2 := Lib.hid (kB.other8 (c := bD) hne (.int .i64 m.b0) (.int .i64 m.b1) (.int .i64 m.w0) (.int .i64 m.w1) (.int .i64 m.q0) (.int .i64 m.q1) (.int .i64 m.s0) (.int .i64 m.s1))
 have H3 := Lib.hid (below_set8 hH zD (.int .i64 m.b0) (.int .i64 m.b1) (.int .i64 m.w0) (.int .i64 m.w1) (.int .i64 m.q0) (.int .i64 m.q1) (.int .i64 m.s0) (.int .i64 m.s1))
 clear hH
 go_simp
 refine hK.out _ _ ?_ (fun hH => ?_)
 · exact H3.out
 clear r0 r1 r2 r3 r4 r5 r6 r7 fr0 fr1 fr2 fr3 fr4 fr5 fr6 fr7 zR
 replace kD := H1.out
 replace kB := H2.out
 clear H1 H2 H3
 obtain ⟨Wn, hWn⟩ : ∃ V, Blk.wld kB = V := ⟨_, rfl⟩
 simp only [Blk.wld] at hWn
 rw [hWn] at hH kB kD ⊢
 clear hWn
 clear hK K
 (try simp only [cq])
 refine wpAnyH_done (by kernel_rfl) ?_ _
 (try dsimp only [Act.put])
 (try simp only [cq])
 go_wp2_with fail
 go_meet
 exact ⟨bB, bD, rfl, rfl, zB, zD, hne, kB, kD, hH⟩
 }
 exact AllReadyH.nil
 }
 refine arc (some 10) (fun K hK => ?_) ?_
 {
 have zz : B3 ≤ _ := Nat.le_trans zB3 hH.size
 (try (have zx := kB.lt))
 go_simp
 first | refine oA hK ?_ (fun hH hA => ?_) | refine oD hK ?_ (fun hH hA => ?_)
 · exact hH.alloc (Nat.le_trans zB3 hH.size) _
 (try (replace kB := kB.alloc (.cells #[.int .i64 0, .int .i64 0, .int .i64 0, .int .i64 0, .int .i64 0, .int .i64 0, .int .i64 0, .int .i64 0] 28)))
 have kD := hA
 clear hA
 obtain ⟨bD, hbD⟩ : ∃ b, Blk.num kD = b := ⟨_, rfl⟩
 obtain ⟨Wn, hWn⟩ : ∃ V, Blk.wld kD = V := ⟨_, rfl⟩
 simp only [Blk.num] at hbD
 simp only [Blk.wld] at hWn
 rw [hWn] at hH kD ⊢
 (try rw [hWn] at kB)
 rw [hbD] at kD ⊢
 replace zz : B3 ≤ bD := by rw [← hbD]; exact zz
 (try (replace zx : bB < bD := by rw [← hbD]; exact zx))
 have zD := zz
 clear zz hbD hWn
 (try (have hne : bB ≠ bD := by omega))
 clear hK K
 (try simp only [cq])
 refine wpAnyH_ready (rs := [14, 15]) (by kernel_rfl) (by simp) ?_
 refine arc (some 71) (fun K hK => ?_) ?_
 {
 go_simp
 (refine (C2.out _).mono ?_; rintro e w' ⟨rfl, hb⟩)
 refine hK.out _ _ ?_ (fun hH => ?_)
 · (exact hH.trans (hb.mono (by have := hH.size; omega)))
 (try (replace kB := kB.call hb))
 (try (replace kD := kD.call hb))
 clear hb
 clear hK K
 (try simp only [cq])
 refine wpAnyH_ready (rs := [15]) (by kernel_rfl) (by simp) ?_
 refine arc1 (some 9) fun K hK => ?_
 have zz : B3 ≤ _ := Nat.le_trans zB3 hH.size
 (try (have zx := kD.lt))
 go_simp
 first | refine oA hK ?_ (fun hH hA => ?_) | refine oD hK ?_ (fun hH hA => ?_)
 · exact hH.alloc (Nat.le_trans zB3 hH.size) _
 (try (replace kD := kD.alloc (.cells #[.int .i64 0, .int .i64 0, .int .i64 0, .int .i64 0, .int .i64 0, .int .i64 0, .int .i64 0, .int .i64 0] 28)))
 have kB := hA
 clear hA
 obtain ⟨bB, hbB⟩ : ∃ b, Blk.num kB = b := ⟨_, rfl⟩
 obtain ⟨Wn, hWn⟩ : ∃ V, Blk.wld kB = V := ⟨_, rfl⟩
 simp only [Blk.num] at hbB
 simp only [Blk.wld] at hWn
 rw [hWn] at hH kB ⊢
 (try rw [hWn] at kD)
 rw [hbB] at kB ⊢
 replace zz : B3 ≤ bB := by rw [← hbB]; exact zz
 (try (replace zx : bD < bB := by rw [← hbB]; exact zx))
 have zB := zz
 clear zz hbB hWn
 (try (have hne : bB ≠ bD := by omega))
 clear hK K
 (try simp only [cq])
 refine wpAnyH_ready (rs := [17]) (by kernel_rfl) (by simp) ?_
 refine arc1 none fun K hK => ?_
 obtain ⟨r0, r1, r2, r3, r4, r5, r6, r7⟩ := kB.c8
 have fr0 := kB.free 0
 have fr1 := kB.free 1
 have fr2 := kB.free 2
 have fr3 := kB.free 3
 have fr4 := kB.free 4
 have fr5 := kB.free 5
 have fr6 := kB.free 6
 have fr7 := kB.free 7
 have zR := kB.lt
 have H1 := Lib.hid (kB.set8 (.int .i64 f.b0) (.int .i64 f.b1) (.int .i64 f.w0) (.int .i64 f.w1) (.int .i64 f.q0) (.int .i64 f.q1) (.int .i64 f.s0) (.int .i64 f.s1))
 have H2 := Lib.hid (kD.other8 (c := bB) (Ne.symm hne) (.int .i64 f.b0) (.int .i64 f.b1) (.int .i64 f.w0) (.int .i64 f.w1) (.int .i64 f.q0) (.int .i64 f.q1) (.int .i64 f.s0) (.int .i64 f.s1))
 have H3 := Lib.hid (below_set8 hH zB (.int .i64 f.b0) (.int .i64 f.b1) (.int .i64 f.w0) (.int .i64 f.w1) (.int .i64 f.q0) (.int .i64 f.q1) (.int .i64 f.s0) (.int .i64 f.s1))
 clear hH
 go_simp
 refine hK.out _ _ ?_ (fun hH => ?_)
 · exact H3.out
 clear r0 r1 r2 r3 r4 r5 r6 r7 fr0 fr1 fr2 fr3 fr4 fr5 fr6 fr7 zR
 replace kB := H1.out
 replace kD := H2.out
 clear H1 H2 H3
 obtain ⟨Wn, hWn⟩ : ∃ V, Blk.wld kB = V := ⟨_, rfl⟩
 simp only [Blk.wld] at hWn
 rw [hWn] at hH kB kD ⊢
 clear hWn
 clear hK K
 (try simp only [cq])
 refine wpAnyH_ready (rs := [18]) (by kernel_rfl) (by simp) ?_
 refine arc1 none fun K hK => ?_
 obtain ⟨r0, r1, r2, r3, r4, r5, r6, r7⟩ := kD.c8
 have fr0 := kD.free 0
 have fr1 := kD.free 1
 have fr2 := kD.free 2
 have fr3 := kD.free 3
 have fr4 := kD.free 4
 have fr5 := kD.free 5
 have fr6 := kD.free 6
 have fr7 := kD.free 7
 have zR := kD.lt
 have H1 := Lib.hid (kD.set8 (.int .i64 m.b0) (.int .i64 m.b1) (.int .i64 m.w0) (.int .i64 m.w1) (.int .i64 m.q0) (.int .i64 m.q1) (.int .i64 m.s0) (.int .i64 m.s1))
 have H2 := Lib.hid (kB.other8 (c := bD) hne (.int .i64 m.b0) (.int .i64 m.b1) (.int .i64 m.w0) (.int .i64 m.w1) (.int .i64 m.q0) (.int .i64 m.q1) (.int .i64 m.s0) (.int .i64 m.s1))
 have H3 := Lib.hid (below_set8 hH zD (.int .i64 m.b0) (.int .i64 m.b1) (.int .i64 m.w0) (.int .i64 m.w1) (.int .i64 m.q0) (.int .i64 m.q1) (.int .i64 m.s0) (.int .i64 m.s1))
 clear hH
 go_simp
 refine hK.out _ _ ?_ (fun hH => ?_)
 · exact H3.out
 clear r0 r1 r2 r3 r4 r5 r6 r7 fr0 fr1 fr2 fr3 fr4 fr5 fr6 fr7 zR
 replace kD := H1.out
 replace kB := H2.out
 clear H1 H2 H3
 obtain ⟨Wn, hWn⟩ : ∃ V, Blk.wld kB = V := ⟨_, rfl⟩
 simp only [Blk.wld] at hWn
 rw [hWn] at hH kB kD ⊢
 clear hWn
 clear hK K
 (try simp only [cq])
 refine wpAnyH_done (by kernel_rfl) ?_ _
 (try dsimp only [Act.put])
 (try simp only [cq])
 go_wp2_with fail
 go_meet
 exact ⟨bB, bD, rfl, rfl, zB, zD, hne, kB, kD, hH⟩
 }
 refine arc (some 9) (fun K hK => ?_) ?_
 {
 have zz : B3 ≤ _ := Nat.le_trans zB3 hH.size
 (try (have zx := kD.lt))
 go_simp
 first | refine oA hK ?_ (fun hH hA => ?_) | refine oD hK ?_ (fun hH hA => ?_)
 · exact hH.alloc (Nat.le_trans zB3 hH.size) _
 (try (replace kD := kD.alloc (.cells #[.int .i64 0, .int .i64 0, .int .i64 0, .int .i64 0, .int .i64 0, .int .i64 0, .int .i64 0, .int .i64 0] 28)))
 have kB := hA
 clear hA
 obtain ⟨bB, hbB⟩ : ∃ b, Blk.num kB = b := ⟨_, rfl⟩
 obtain ⟨Wn, hWn⟩ : ∃ V, Blk.wld kB = V := ⟨_, rfl⟩
 simp only [Blk.num] at hbB
 simp only [Blk.wld] at hWn
 rw [hWn] at hH kB ⊢
 (try rw [hWn] at kD)
 rw [hbB] at kB ⊢
 replace zz : B3 ≤ bB := by rw [← hbB]; exact zz
 (try (replace zx : bD < bB := by rw [← hbB]; exact zx))
 have zB := zz
 clear zz hbB hWn
 (try (have hne : bB ≠ bD := by omega))
 clear hK K
 (try simp only [cq])
 refine wpAnyH_ready (rs := [14]) (by kernel_rfl) (by simp) ?_
 refine arc1 (some 71) fun K hK => ?_
 go_simp
 (refine (C2.out _).mono ?_; rintro e w' ⟨rfl, hb⟩)
 refine hK.out _ _ ?_ (fun hH => ?_)
 · (exact hH.trans (hb.mono (by have := hH.size; omega)))
 (try (replace kB := kB.call hb))
 (try (replace kD := kD.call hb))
 clear hb
 clear hK K
 (try simp only [cq])
 refine wpAnyH_ready (rs := [17]) (by kernel_rfl) (by simp) ?_
 refine arc1 none fun K hK => ?_
 obtain ⟨r0, r1, r2, r3, r4, r5, r6, r7⟩ := kB.c8
 have fr0 := kB.free 0
 have fr1 := kB.free 1
 have fr2 := kB.free 2
 have fr3 := kB.free 3
 have fr4 := kB.free 4
 have fr5 := kB.free 5
 have fr6 := kB.free 6
 have fr7 := kB.free 7
 have zR := kB.lt
 have H1 := Lib.hid (kB.set8 (.int .i64 f.b0) (.int .i64 f.b1) (.int .i64 f.w0) (.int .i64 f.w1) (.int .i64 f.q0) (.int .i64 f.q1) (.int .i64 f.s0) (.int .i64 f.s1))
 have H2 := Lib.hid (kD.other8 (c := bB) (Ne.symm hne) (.int .i64 f.b0) (.int .i64 f.b1) (.int .i64 f.w0) (.int .i64 f.w1) (.int .i64 f.q0) (.int .i64 f.q1) (.int .i64 f.s0) (.int .i64 f.s1))
 have H3 := Lib.hid (below_set8 hH zB (.int .i64 f.b0) (.int .i64 f.b1) (.int .i64 f.w0) (.int .i64 f.w1) (.int .i64 f.q0) (.int .i64 f.q1) (.int .i64 f.s0) (.int .i64 f.s1))
 clear hH
 go_simp
 refine hK.out _ _ ?_ (fun hH => ?_)
 · exact H3.out
 clear r0 r1 r2 r3 r4 r5 r6 r7 fr0 fr1 fr2 fr3 fr4 fr5 fr6 fr7 zR
 replace kB := H1.out
 replace kD := H2.out
 clear H1 H2 H3
 obtain ⟨Wn, hWn⟩ : ∃ V, Blk.wld kB = V := ⟨_, rfl⟩
 simp only [Blk.wld] at hWn
 rw [hWn] at hH kB kD ⊢
 clear hWn
 clear hK K
 (try simp only [cq])
 refine wpAnyH_ready (rs := [18]) (by kernel_rfl) (by simp) ?_
 refine arc1 none fun K hK => ?_
 obtain ⟨r0, r1, r2, r3, r4, r5, r6, r7⟩ := kD.c8
 have fr0 := kD.free 0
 have fr1 := kD.free 1
 have fr2 := kD.free 2
 have fr3 := kD.free 3
 have fr4 := kD.free 4
 have fr5 := kD.free 5
 have fr6 := kD.free 6
 have fr7 := kD.free 7
 have zR := kD.lt
 have H1 := Lib.hid (kD.set8 (.int .i64 m.b0) (.int .i64 m.b1) (.int .i64 m.w0) (.int .i64 m.w1) (.int .i64 m.q0) (.int .i64 m.q1) (.int .i64 m.s0) (.int .i64 m.s1))
 have H2 := Lib.hid (kB.other8 (c := bD) hne (.int .i64 m.b0) (.int .i64 m.b1) (.int .i64 m.w0) (.int .i64 m.w1) (.int .i64 m.q0) (.int .i64 m.q1) (.int .i64 m.s0) (.int .i64 m.s1))
 have H3 := Lib.hid (below_set8 hH zD (.int .i64 m.b0) (.int .i64 m.b1) (.int .i64 m.w0) (.int .i64 m.w1) (.int .i64 m.q0) (.int .i64 m.q1) (.int .i64 m.s0) (.int .i64 m.s1))
 clear hH
 go_simp
 refine hK.out _ _ ?_ (fun hH => ?_)
 · exact H3.out
 clear r0 r1 r2 r3 r4 r5 r6 r7 fr0 fr1 fr2 fr3 fr4 fr5 fr6 fr7 zR
 replace kD := H1.out
 replace kB := H2.out
 clear H1 H2 H3
 obtain ⟨Wn, hWn⟩ : ∃ V, Blk.wld kB = V := ⟨_, rfl⟩
 simp only [Blk.wld] at hWn
 rw [hWn] at hH kB kD ⊢
 clear hWn
 clear hK K
 (try simp only [cq])
 refine wpAnyH_done (by kernel_rfl) ?_ _
 (try dsimp only [Act.put])
 (try simp only [cq])
 go_wp2_with fail
 go_meet
 exact ⟨bB, bD, rfl, rfl, zB, zD, hne, kB, kD, hH⟩
 }
 exact AllReadyH.nil
 }
 exact AllReadyH.nil
 }
 refine arc (some 9) (fun K hK => ?_) ?_
 {
 have zz : B3 ≤ _ := Nat.le_trans zB3 hH.size
 (try (have zx := kD.lt))
 go_simp
 first | refine oA hK ?_ (fun hH hA => ?_) | refine oD hK ?_ (fun hH hA => ?_)
 · exact hH.alloc (Nat.le_trans zB3 hH.size) _
 (try (replace kD := kD.alloc (.cells #[.int .i64 0, .int .i64 0, .int .i64 0, .int .i64 0, .int .i64 0, .int .i64 0, .int .i64 0, .int .i64 0] 28)))
 have kB := hA
 clear hA
 obtain ⟨bB, hbB⟩ : ∃ b, Blk.num kB = b := ⟨_, rfl⟩
 obtain ⟨Wn, hWn⟩ : ∃ V, Blk.wld kB = V := ⟨_, rfl⟩
 simp only [Blk.num] at hbB
 simp only [Blk.wld] at hWn
 rw [hWn] at hH kB ⊢
 (try rw [hWn] at kD)
 rw [hbB] at kB ⊢
 replace zz : B3 ≤ bB := by rw [← hbB]; exact zz
 (try (replace zx : bD < bB := by rw [← hbB]; exact zx))
 have zB := zz
 clear zz hbB hWn
 (try (have hne : bB ≠ bD := by omega))
 clear hK K
 (try simp only [cq])
 refine wpAnyH_ready (rs := [6, 16]) (by kernel_rfl) (by simp) ?_
 refine arc (some 63) (fun K hK => ?_) ?_
 {
 go_simp
 (refine (C1.out _ (jB.trans (hH.mono zwB))).mono ?_; rintro e w' ⟨rfl, hb⟩)
 refine hK.out _ _ ?_ (fun hH => ?_)
 · (exact hH.trans (hb.mono (by have := hH.size; omega)))
 (try (replace kB := kB.call hb))
 (try (replace kD := kD.call hb))
 clear hb
 clear hK K
 (try simp only [cq])
 refine wpAnyH_ready (rs := [14, 16]) (by kernel_rfl) (by simp) ?_
 refine arc (some 71) (fun K hK => ?_) ?_
 {
 go_simp
 (refine (C2.out _).mono ?_; rintro e w' ⟨rfl, hb⟩)
 refine hK.out _ _ ?_ (fun hH => ?_)
 · (exact hH.trans (hb.mono (by have := hH.size; omega)))
 (try (replace kB := kB.call hb))
 (try (replace kD := kD.call hb))
 clear hb
 clear hK K
 (try simp only [cq])
 refine wpAnyH_ready (rs := [16]) (by kernel_rfl) (by simp) ?_
 refine arc1 (some 10) fun K hK => ?_
 have zz : B3 ≤ _ := Nat.le_trans zB3 hH.size
 (try (have zx := kB.lt))
 go_simp
 first | refine oA hK ?_ (fun hH hA => ?_) | refine oD hK ?_ (fun hH hA => ?_)
 · exact hH.alloc (Nat.le_trans zB3 hH.size) _
 (try (replace kB := kB.alloc (.cells #[.int .i64 0, .int .i64 0, .int .i64 0, .int .i64 0, .int .i64 0, .int .i64 0, .int .i64 0, .int .i64 0] 28)))
 have kD := hA
 clear hA
 obtain ⟨bD, hbD⟩ : ∃ b, Blk.num kD = b := ⟨_, rfl⟩
 obtain ⟨Wn, hWn⟩ : ∃ V, Blk.wld kD = V := ⟨_, rfl⟩
 simp only [Blk.num] at hbD
 simp only [Blk.wld] at hWn
 rw [hWn] at hH kD ⊢
 (try rw [hWn] at kB)
 rw [hbD] at kD ⊢
 replace zz : B3 ≤ bD := by rw [← hbD]; exact zz
 (try (replace zx : bB < bD := by rw [← hbD]; exact zx))
 have zD := zz
 clear zz hbD hWn
 (try (have hne : bB ≠ bD := by omega))
 clear hK K
 (try simp only [cq])
 refine wpAnyH_ready (rs := [17]) (by kernel_rfl) (by simp) ?_
 refine arc1 none fun K hK => ?_
 obtain ⟨r0, r1, r2, r3, r4, r5, r6, r7⟩ := kB.c8
 have fr0 := kB.free 0
 have fr1 := kB.free 1
 have fr2 := kB.free 2
 have fr3 := kB.free 3
 have fr4 := kB.free 4
 have fr5 := kB.free 5
 have fr6 := kB.free 6
 have fr7 := kB.free 7
 have zR := kB.lt
 have H1 := Lib.hid (kB.set8 (.int .i64 f.b0) (.int .i64 f.b1) (.int .i64 f.w0) (.int .i64 f.w1) (.int .i64 f.q0) (.int .i64 f.q1) (.int .i64 f.s0) (.int .i64 f.s1))
 have H2 := Lib.hid (kD.other8 (c := bB) (Ne.symm hne) (.int .i64 f.b0) (.int .i64 f.b1) (.int .i64 f.w0) (.int .i64 f.w1) (.int .i64 f.q0) (.int .i64 f.q1) (.int .i64 f.s0) (.int .i64 f.s1))
 have H3 := Lib.hid (below_set8 hH zB (.int .i64 f.b0) (.int .i64 f.b1) (.int .i64 f.w0) (.int .i64 f.w1) (.int .i64 f.q0) (.int .i64 f.q1) (.int .i64 f.s0) (.int .i64 f.s1))
 clear hH
 go_simp
 refine hK.out _ _ ?_ (fun hH => ?_)
 · exact H3.out
 clear r0 r1 r2 r3 r4 r5 r6 r7 fr0 fr1 fr2 fr3 fr4 fr5 fr6 fr7 zR
 replace kB := H1.out
 replace kD := H2.out
 clear H1 H2 H3
 obtain ⟨Wn, hWn⟩ : ∃ V, Blk.wld kB = V := ⟨_, rfl⟩
 simp only [Blk.wld] at hWn
 rw [hWn] at hH kB kD ⊢
 clear hWn
 clear hK K
 (try simp only [cq])
 refine wpAnyH_ready (rs := [18]) (by kernel_rfl) (by simp) ?_
 refine arc1 none fun K hK => ?_
 obtain ⟨r0, r1, r2, r3, r4, r5, r6, r7⟩ := kD.c8
 have fr0 := kD.free 0
 have fr1 := kD.free 1
 have fr2 := kD.free 2
 have fr3 := kD.free 3
 have fr4 := kD.free 4
 have fr5 := kD.free 5
 have fr6 := kD.free 6
 have fr7 := kD.free 7
 have zR := kD.lt
 have H1 := Lib.hid (kD.set8 (.int .i64 m.b0) (.int .i64 m.b1) (.int .i64 m.w0) (.int .i64 m.w1) (.int .i64 m.q0) (.int .i64 m.q1) (.int .i64 m.s0) (.int .i64 m.s1))
 have H2 := Lib.hid (kB.other8 (c := bD) hne (.int .i64 m.b0) (.int .i64 m.b1) (.int .i64 m.w0) (.int .i64 m.w1) (.int .i64 m.q0) (.int .i64 m.q1) (.int .i64 m.s0) (.int .i64 m.s1))
 have H3 := Lib.hid (below_set8 hH zD (.int .i64 m.b0) (.int .i64 m.b1) (.int .i64 m.w0) (.int .i64 m.w1) (.int .i64 m.q0) (.int .i64 m.q1) (.int .i64 m.s0) (.int .i64 m.s1))
 clear hH
 go_simp
 refine hK.out _ _ ?_ (fun hH => ?_)
 · exact H3.out
 clear r0 r1 r2 r3 r4 r5 r6 r7 fr0 fr1 fr2 fr3 fr4 fr5 fr6 fr7 zR
 replace kD := H1.out
 replace kB := H2.out
 clear H1 H2 H3
 obtain ⟨Wn, hWn⟩ : ∃ V, Blk.wld kB = V := ⟨_, rfl⟩
 simp only [Blk.wld] at hWn
 rw [hWn] at hH kB kD ⊢
 clear hWn
 clear hK K
 (try simp only [cq])
 refine wpAnyH_done (by kernel_rfl) ?_ _
 (try dsimp only [Act.put])
 (try simp only [cq])
 go_wp2_with fail
 go_meet
 exact ⟨bB, bD, rfl, rfl, zB, zD, hne, kB, kD, hH⟩
 }
 refine arc (some 10) (fun K hK => ?_) ?_
 {
 have zz : B3 ≤ _ := Nat.le_trans zB3 hH.size
 (try (have zx := kB.lt))
 go_simp
 first | refine oA hK ?_ (fun hH hA => ?_) | refine oD hK ?_ (fun hH hA => ?_)
 · exact hH.alloc (Nat.le_trans zB3 hH.size) _
 (try (replace kB := kB.alloc (.cells #[.int .i64 0, .int .i64 0, .int .i64 0, .int .i64 0, .int .i64 0, .int .i64 0, .int .i64 0, .int .i64 0] 28)))
 have kD := hA
 clear hA
 obtain ⟨bD, hbD⟩ : ∃ b, Blk.num kD = b := ⟨_, rfl⟩
 obtain ⟨Wn, hWn⟩ : ∃ V, Blk.wld kD = V := ⟨_, rfl⟩
 simp only [Blk.num] at hbD
 simp only [Blk.wld] at hWn
 rw [hWn] at hH kD ⊢
 (try rw [hWn] at kB)
 rw [hbD] at kD ⊢
 replace zz : B3 ≤ bD := by rw [← hbD]; exact zz
 (try (replace zx : bB < bD := by rw [← hbD]; exact zx))
 have zD := zz
 clear zz hbD hWn
 (try (have hne : bB ≠ bD := by omega))
 clear hK K
 (try simp only [cq])
 refine wpAnyH_ready (rs := [14]) (by kernel_rfl) (by simp) ?_
 refine arc1 (some 71) fun K hK => ?_
 go_simp
 (refine (C2.out _).mono ?_; rintro e w' ⟨rfl, hb⟩)
 refine hK.out _ _ ?_ (fun hH => ?_)
 · (exact hH.trans (hb.mono (by have := hH.size; omega)))
 (try (replace kB := kB.call hb))
 (try (replace kD := kD.call hb))
 clear hb
 clear hK K
 (try simp only [cq])
 refine wpAnyH_ready (rs := [17]) (by kernel_rfl) (by simp) ?_
 refine arc1 none fun K hK => ?_
 obtain ⟨r0, r1, r2, r3, r4, r5, r6, r7⟩ := kB.c8
 have fr0 := kB.free 0
 have fr1 := kB.free 1
 have fr2 := kB.free 2
 have fr3 := kB.free 3
 have fr4 := kB.free 4
 have fr5 := kB.free 5
 have fr6 := kB.free 6
 have fr7 := kB.free 7
 have zR := kB.lt
 have H1 := Lib.hid (kB.set8 (.int .i64 f.b0) (.int .i64 f.b1) (.int .i64 f.w0) (.int .i64 f.w1) (.int .i64 f.q0) (.int .i64 f.q1) (.int .i64 f.s0) (.int .i64 f.s1))
 have H2 := Lib.hid (kD.other8 (c := bB) (Ne.symm hne) (.int .i64 f.b0) (.int .i64 f.b1) (.int .i64 f.w0) (.int .i64 f.w1) (.int .i64 f.q0) (.int .i64 f.q1) (.int .i64 f.s0) (.int .i64 f.s1))
 have H3 := Lib.hid (below_set8 hH zB (.int .i64 f.b0) (.int .i64 f.b1) (.int .i64 f.w0) (.int .i64 f.w1) (.int .i64 f.q0) (.int .i64 f.q1) (.int .i64 f.s0) (.int .i64 f.s1))
 clear hH
 go_simp
 refine hK.out _ _ ?_ (fun hH => ?_)
 · exact H3.out
 clear r0 r1 r2 r3 r4 r5 r6 r7 fr0 fr1 fr2 fr3 fr4 fr5 fr6 fr7 zR
 replace kB := H1.out
 replace kD := H2.out
 clear H1 H2 H3
 obtain ⟨Wn, hWn⟩ : ∃ V, Blk.wld kB = V := ⟨_, rfl⟩
 simp only [Blk.wld] at hWn
 rw [hWn] at hH kB kD ⊢
 clear hWn
 clear hK K
 (try simp only [cq])
 refine wpAnyH_ready (rs := [18]) (by kernel_rfl) (by simp) ?_
 refine arc1 none fun K hK => ?_
 obtain ⟨r0, r1, r2, r3, r4, r5, r6, r7⟩ := kD.c8
 have fr0 := kD.free 0
 have fr1 := kD.free 1
 have fr2 := kD.free 2
 have fr3 := kD.free 3
 have fr4 := kD.free 4
 have fr5 := kD.free 5
 have fr6 := kD.free 6
 have fr7 := kD.free 7
 have zR := kD.lt
 have H1 := Lib.hid (kD.set8 (.int .i64 m.b0) (.int .i64 m.b1) (.int .i64 m.w0) (.int .i64 m.w1) (.int .i64 m.q0) (.int .i64 m.q1) (.int .i64 m.s0) (.int .i64 m.s1))
 have H2 := Lib.hid (kB.other8 (c := bD) hne (.int .i64 m.b0) (.int .i64 m.b1) (.int .i64 m.w0) (.int .i64 m.w1) (.int .i64 m.q0) (.int .i64 m.q1) (.int .i64 m.s0) (.int .i64 m.s1))
 have H3 := Lib.hid (below_set8 hH zD (.int .i64 m.b0) (.int .i64 m.b1) (.int .i64 m.w0) (.int .i64 m.w1) (.int .i64 m.q0) (.int .i64 m.q1) (.int .i64 m.s0) (.int .i64 m.s1))
 clear hH
 go_simp
 refine hK.out _ _ ?_ (fun hH => ?_)
 · exact H3.out
 clear r0 r1 r2 r3 r4 r5 r6 r7 fr0 fr1 fr2 fr3 fr4 fr5 fr6 fr7 zR
 replace kD := H1.out
 replace kB := H2.out
 clear H1 H2 H3
 obtain ⟨Wn, hWn⟩ : ∃ V, Blk.wld kB = V := ⟨_, rfl⟩
 simp only [Blk.wld] at hWn
 rw [hWn] at hH kB kD ⊢
 clear hWn
 clear hK K
 (try simp only [cq])
 refine wpAnyH_done (by kernel_rfl) ?_ _
 (try dsimp only [Act.put])
 (try simp only [cq])
 go_wp2_with fail
 go_meet
 exact ⟨bB, bD, rfl, rfl, zB, zD, hne, kB, kD, hH⟩
 }
 exact AllReadyH.nil
 }
 refine arc (some 10) (fun K hK => ?_) ?_
 {
 have zz : B3 ≤ _ := Nat.le_trans zB3 hH.size
 (try (have zx := kB.lt))
 go_simp
 first | refine oA hK ?_ (fun hH hA => ?_) | refine oD hK ?_ (fun hH hA => ?_)
 · exact hH.alloc (Nat.le_trans zB3 hH.size) _
 (try (replace kB := kB.alloc (.cells #[.int .i64 0, .int .i64 0, .int .i64 0, .int .i64 0, .int .i64 0, .int .i64 0, .int .i64 0, .int .i64 0] 28)))
 have kD := hA
 clear hA
 obtain ⟨bD, hbD⟩ : ∃ b, Blk.num kD = b := ⟨_, rfl⟩
 obtain ⟨Wn, hWn⟩ : ∃ V, Blk.wld kD = V := ⟨_, rfl⟩
 simp only [Blk.num] at hbD
 simp only [Blk.wld] at hWn
 rw [hWn] at hH kD ⊢
 (try rw [hWn] at kB)
 rw [hbD] at kD ⊢
 replace zz : B3 ≤ bD := by rw [← hbD]; exact zz
 (try (replace zx : bB < bD := by rw [← hbD]; exact zx))
 have zD := zz
 clear zz hbD hWn
 (try (have hne : bB ≠ bD := by omega))
 clear hK K
 (try simp only [cq])
 refine wpAnyH_ready (rs := [6]) (by kernel_rfl) (by simp) ?_
 refine arc1 (some 63) fun K hK => ?_
 go_simp
 (refine (C1.out _ (jB.trans (hH.mono zwB))).mono ?_; rintro e w' ⟨rfl, hb⟩)
 refine hK.out _ _ ?_ (fun hH => ?_)
 · (exact hH.trans (hb.mono (by have := hH.size; omega)))
 (try (replace kB := kB.call hb))
 (try (replace kD := kD.call hb))
 clear hb
 clear hK K
 (try simp only [cq])
 refine wpAnyH_ready (rs := [14]) (by kernel_rfl) (by simp) ?_
 refine arc1 (some 71) fun K hK => ?_
 go_simp
 (refine (C2.out _).mono ?_; rintro e w' ⟨rfl, hb⟩)
 refine hK.out _ _ ?_ (fun hH => ?_)
 · (exact hH.trans (hb.mono (by have := hH.size; omega)))
 (try (replace kB := kB.call hb))
 (try (replace kD := kD.call hb))
 clear hb
 clear hK K
 (try simp only [cq])
 refine wpAnyH_ready (rs := [17]) (by kernel_rfl) (by simp) ?_
 refine arc1 none fun K hK => ?_
 obtain ⟨r0, r1, r2, r3, r4, r5, r6, r7⟩ := kB.c8
 have fr0 := kB.free 0
 have fr1 := kB.free 1
 have fr2 := kB.free 2
 have fr3 := kB.free 3
 have fr4 := kB.free 4
 have fr5 := kB.free 5
 have fr6 := kB.free 6
 have fr7 := kB.free 7
 have zR := kB.lt
 have H1 := Lib.hid (kB.set8 (.int .i64 f.b0) (.int .i64 f.b1) (.int .i64 f.w0) (.int .i64 f.w1) (.int .i64 f.q0) (.int .i64 f.q1) (.int .i64 f.s0) (.int .i64 f.s1))
 have H2 := Lib.hid (kD.other8 (c := bB) (Ne.symm hne) (.int .i64 f.b0) (.int .i64 f.b1) (.int .i64 f.w0) (.int .i64 f.w1) (.int .i64 f.q0) (.int .i64 f.q1) (.int .i64 f.s0) (.int .i64 f.s1))
 have H3 := Lib.hid (below_set8 hH zB (.int .i64 f.b0) (.int .i64 f.b1) (.int .i64 f.w0) (.int .i64 f.w1) (.int .i64 f.q0) (.int .i64 f.q1) (.int .i64 f.s0) (.int .i64 f.s1))
 clear hH
 go_simp
 refine hK.out _ _ ?_ (fun hH => ?_)
 · exact H3.out
 clear r0 r1 r2 r3 r4 r5 r6 r7 fr0 fr1 fr2 fr3 fr4 fr5 fr6 fr7 zR
 replace kB := H1.out
 replace kD := H2.out
 clear H1 H2 H3
 obtain ⟨Wn, hWn⟩ : ∃ V, Blk.wld kB = V := ⟨_, rfl⟩
 simp only [Blk.wld] at hWn
 rw [hWn] at hH kB kD ⊢
 clear hWn
 clear hK K
 (try simp only [cq])
 refine wpAnyH_ready (rs := [18]) (by kernel_rfl) (by simp) ?_
 refine arc1 none fun K hK => ?_
 obtain ⟨r0, r1, r2, r3, r4, r5, r6, r7⟩ := kD.c8
 have fr0 := kD.free 0
 have fr1 := kD.free 1
 have fr2 := kD.free 2
 have fr3 := kD.free 3
 have fr4 := kD.free 4
 have fr5 := kD.free 5
 have fr6 := kD.free 6
 have fr7 := kD.free 7
 have zR := kD.lt
 have H1 := Lib.hid (kD.set8 (.int .i64 m.b0) (.int .i64 m.b1) (.int .i64 m.w0) (.int .i64 m.w1) (.int .i64 m.q0) (.int .i64 m.q1) (.int .i64 m.s0) (.int .i64 m.s1))
 have H2 := Lib.hid (kB.other8 (c := bD) hne (.int .i64 m.b0) (.int .i64 m.b1) (.int .i64 m.w0) (.int .i64 m.w1) (.int .i64 m.q0) (.int .i64 m.q1) (.int .i64 m.s0) (.int .i64 m.s1))
 have H3 := Lib.hid (below_set8 hH zD (.int .i64 m.b0) (.int .i64 m.b1) (.int .i64 m.w0) (.int .i64 m.w1) (.int .i64 m.q0) (.int .i64 m.q1) (.int .i64 m.s0) (.int .i64 m.s1))
 clear hH
 go_simp
 refine hK.out _ _ ?_ (fun hH => ?_)
 · exact H3.out
 clear r0 r1 r2 r3 r4 r5 r6 r7 fr0 fr1 fr2 fr3 fr4 fr5 fr6 fr7 zR
 replace kD := H1.out
 replace kB := H2.out
 clear H1 H2 H3
 obtain ⟨Wn, hWn⟩ : ∃ V, Blk.wld kB = V := ⟨_, rfl⟩
 simp only [Blk.wld] at hWn
 rw [hWn] at hH kB kD ⊢
 clear hWn
 clear hK K
 (try simp only [cq])
 refine wpAnyH_done (by kernel_rfl) ?_ _
 (try dsimp only [Act.put])
 (try simp only [cq])
 go_wp2_with fail
 go_meet
 exact ⟨bB, bD, rfl, rfl, zB, zD, hne, kB, kD, hH⟩
 }
 exact AllReadyH.nil
 }
 refine arc (some 10) (fun K hK => ?_) ?_
 {
 have zz : B3 ≤ _ := Nat.le_trans zB3 hH.size
 (try (have zx := kB.lt))
 go_simp
 first | refine oA hK ?_ (fun hH hA => ?_) | refine oD hK ?_ (fun hH hA => ?_)
 · exact hH.alloc (Nat.le_trans zB3 hH.size) _
 (try (replace kB := kB.alloc (.cells #[.int .i64 0, .int .i64 0, .int .i64 0, .int .i64 0, .int .i64 0, .int .i64 0, .int .i64 0, .int .i64 0] 28)))
 have kD := hA
 clear hA
 obtain ⟨bD, hbD⟩ : ∃ b, Blk.num kD = b := ⟨_, rfl⟩
 obtain ⟨Wn, hWn⟩ : ∃ V, Blk.wld kD = V := ⟨_, rfl⟩
 simp only [Blk.num] at hbD
 simp only [Blk.wld] at hWn
 rw [hWn] at hH kD ⊢
 (try rw [hWn] at kB)
 rw [hbD] at kD ⊢
 replace zz : B3 ≤ bD := by rw [← hbD]; exact zz
 (try (replace zx : bB < bD := by rw [← hbD]; exact zx))
 have zD := zz
 clear zz hbD hWn
 (try (have hne : bB ≠ bD := by omega))
 clear hK K
 (try simp only [cq])
 refine wpAnyH_ready (rs := [6, 15]) (by kernel_rfl) (by simp) ?_
 refine arc (some 63) (fun K hK => ?_) ?_
 {
 go_simp
 (refine (C1.out _ (jB.trans (hH.mono zwB))).mono ?_; rintro e w' ⟨rfl, hb⟩)
 refine hK.out _ _ ?_ (fun hH => ?_)
 · (exact hH.trans (hb.mono (by have := hH.size; omega)))
 (try (replace kB := kB.call hb))
 (try (replace kD := kD.call hb))
 clear hb
 clear hK K
 (try simp only [cq])
 refine wpAnyH_ready (rs := [14, 15]) (by kernel_rfl) (by simp) ?_
 refine arc (some 71) (fun K hK => ?_) ?_
 {
 go_simp
 (refine (C2.out _).mono ?_; rintro e w' ⟨rfl, hb⟩)
 refine hK.out _ _ ?_ (fun hH => ?_)
 · (exact hH.trans (hb.mono (by have := hH.size; omega)))
 (try (replace kB := kB.call hb))
 (try (replace kD := kD.call hb))
 clear hb
 clear hK K
 (try simp only [cq])
 refine wpAnyH_ready (rs := [15]) (by kernel_rfl) (by simp) ?_
 refine arc1 (some 9) fun K hK => ?_
 have zz : B3 ≤ _ := Nat.le_trans zB3 hH.size
 (try (have zx := kD.lt))
 go_simp
 first | refine oA hK ?_ (fun hH hA => ?_) | refine oD hK ?_ (fun hH hA => ?_)
 · exact hH.alloc (Nat.le_trans zB3 hH.size) _
 (try (replace kD := kD.alloc (.cells #[.int .i64 0, .int .i64 0, .int .i64 0, .int .i64 0, .int .i64 0, .int .i64 0, .int .i64 0, .int .i64 0] 28)))
 have kB := hA
 clear hA
 obtain ⟨bB, hbB⟩ : ∃ b, Blk.num kB = b := ⟨_, rfl⟩
 obtain ⟨Wn, hWn⟩ : ∃ V, Blk.wld kB = V := ⟨_, rfl⟩
 simp only [Blk.num] at hbB
 simp only [Blk.wld] at hWn
 rw [hWn] at hH kB ⊢
 (try rw [hWn] at kD)
 rw [hbB] at kB ⊢
 replace zz : B3 ≤ bB := by rw [← hbB]; exact zz
 (try (replace zx : bD < bB := by rw [← hbB]; exact zx))
 have zB := zz
 clear zz hbB hWn
 (try (have hne : bB ≠ bD := by omega))
 clear hK K
 (try simp only [cq])
 refine wpAnyH_ready (rs := [17]) (by kernel_rfl) (by simp) ?_
 refine arc1 none fun K hK => ?_
 obtain ⟨r0, r1, r2, r3, r4, r5, r6, r7⟩ := kB.c8
 have fr0 := kB.free 0
 have fr1 := kB.free 1
 have fr2 := kB.free 2
 have fr3 := kB.free 3
 have fr4 := kB.free 4
 have fr5 := kB.free 5
 have fr6 := kB.free 6
 have fr7 := kB.free 7
 have zR := kB.lt
 have H1 := Lib.hid (kB.set8 (.int .i64 f.b0) (.int .i64 f.b1) (.int .i64 f.w0) (.int .i64 f.w1) (.int .i64 f.q0) (.int .i64 f.q1) (.int .i64 f.s0) (.int .i64 f.s1))
 have H2 := Lib.hid (kD.other8 (c := bB) (Ne.symm hne) (.int .i64 f.b0) (.int .i64 f.b1) (.int .i64 f.w0) (.int .i64 f.w1) (.int .i64 f.q0) (.int .i64 f.q1) (.int .i64 f.s0) (.int .i64 f.s1))
 have H3 := Lib.hid (below_set8 hH zB (.int .i64 f.b0) (.int .i64 f.b1) (.int .i64 f.w0) (.int .i64 f.w1) (.int .i64 f.q0) (.int .i64 f.q1) (.int .i64 f.s0) (.int .i64 f.s1))
 clear hH
 go_simp
 refine hK.out _ _ ?_ (fun hH => ?_)
 · exact H3.out
 clear r0 r1 r2 r3 r4 r5 r6 r7 fr0 fr1 fr2 fr3 fr4 fr5 fr6 fr7 zR
 replace kB := H1.out
 replace kD := H2.out
 clear H1 H2 H3
 obtain ⟨Wn, hWn⟩ : ∃ V, Blk.wld kB = V := ⟨_, rfl⟩
 simp only [Blk.wld] at hWn
 rw [hWn] at hH kB kD ⊢
 clear hWn
 clear hK K
 (try simp only [cq])
 refine wpAnyH_ready (rs := [18]) (by kernel_rfl) (by simp) ?_
 refine arc1 none fun K hK => ?_
 obtain ⟨r0, r1, r2, r3, r4, r5, r6, r7⟩ := kD.c8
 have fr0 := kD.free 0
 have fr1 := kD.free 1
 have fr2 := kD.free 2
 have fr3 := kD.free 3
 have fr4 := kD.free 4
 have fr5 := kD.free 5
 have fr6 := kD.free 6
 have fr7 := kD.free 7
 have zR := kD.lt
 have H1 := Lib.hid (kD.set8 (.int .i64 m.b0) (.int .i64 m.b1) (.int .i64 m.w0) (.int .i64 m.w1) (.int .i64 m.q0) (.int .i64 m.q1) (.int .i64 m.s0) (.int .i64 m.s1))
 have H2 := Lib.hid (kB.other8 (c := bD) hne (.int .i64 m.b0) (.int .i64 m.b1) (.int .i64 m.w0) (.int .i64 m.w1) (.int .i64 m.q0) (.int .i64 m.q1) (.int .i64 m.s0) (.int .i64 m.s1))
 have H3 := Lib.hid (below_set8 hH zD (.int .i64 m.b0) (.int .i64 m.b1) (.int .i64 m.w0) (.int .i64 m.w1) (.int .i64 m.q0) (.int .i64 m.q1) (.int .i64 m.s0) (.int .i64 m.s1))
 clear hH
 go_simp
 refine hK.out _ _ ?_ (fun hH => ?_)
 · exact H3.out
 clear r0 r1 r2 r3 r4 r5 r6 r7 fr0 fr1 fr2 fr3 fr4 fr5 fr6 fr7 zR
 replace kD := H1.out
 replace kB := H2.out
 clear H1 H2 H3
 obtain ⟨Wn, hWn⟩ : ∃ V, Blk.wld kB = V := ⟨_, rfl⟩
 simp only [Blk.wld] at hWn
 rw [hWn] at hH kB kD ⊢
 clear hWn
 clear hK K
 (try simp only [cq])
 refine wpAnyH_done (by kernel_rfl) ?_ _
 (try dsimp only [Act.put])
 (try simp only [cq])
 go_wp2_with fail
 go_meet
 exact ⟨bB, bD, rfl, rfl, zB, zD, hne, kB, kD, hH⟩
 }
 refine arc (some 9) (fun K hK => ?_) ?_
 {
 have zz : B3 ≤ _ := Nat.le_trans zB3 hH.size
 (try (have zx := kD.lt))
 go_simp
 first | refine oA hK ?_ (fun hH hA => ?_) | refine oD hK ?_ (fun hH hA => ?_)
 · exact hH.alloc (Nat.le_trans zB3 hH.size) _
 (try (replace kD := kD.alloc (.cells #[.int .i64 0, .int .i64 0, .int .i64 0, .int .i64 0, .int .i64 0, .int .i64 0, .int .i64 0, .int .i64 0] 28)))
 have kB := hA
 clear hA
 obtain ⟨bB, hbB⟩ : ∃ b, Blk.num kB = b := ⟨_, rfl⟩
 obtain ⟨Wn, hWn⟩ : ∃ V, Blk.wld kB = V := ⟨_, rfl⟩
 simp only [Blk.num] at hbB
 simp only [Blk.wld] at hWn
 rw [hWn] at hH kB ⊢
 (try rw [hWn] at kD)
 rw [hbB] at kB ⊢
 replace zz : B3 ≤ bB := by rw [← hbB]; exact zz
 (try (replace zx : bD < bB := by rw [← hbB]; exact zx))
 have zB := zz
 clear zz hbB hWn
 (try (have hne : bB ≠ bD := by omega))
 clear hK K
 (try simp only [cq])
 refine wpAnyH_ready (rs := [14]) (by kernel_rfl) (by simp) ?_
 refine arc1 (some 71) fun K hK => ?_
 go_simp
 (refine (C2.out _).mono ?_; rintro e w' ⟨rfl, hb⟩)
 refine hK.out _ _ ?_ (fun hH => ?_)
 · (exact hH.trans (hb.mono (by have := hH.size; omega)))
 (try (replace kB := kB.call hb))
 (try (replace kD := kD.call hb))
 clear hb
 clear hK K
 (try simp only [cq])
 refine wpAnyH_ready (rs := [17]) (by kernel_rfl) (by simp) ?_
 refine arc1 none fun K hK => ?_
 obtain ⟨r0, r1, r2, r3, r4, r5, r6, r7⟩ := kB.c8
 have fr0 := kB.free 0
 have fr1 := kB.free 1
 have fr2 := kB.free 2
 have fr3 := kB.free 3
 have fr4 := kB.free 4
 have fr5 := kB.free 5
 have fr6 := kB.free 6
 have fr7 := kB.free 7
 have zR := kB.lt
 have H1 := Lib.hid (kB.set8 (.int .i64 f.b0) (.int .i64 f.b1) (.int .i64 f.w0) (.int .i64 f.w1) (.int .i64 f.q0) (.int .i64 f.q1) (.int .i64 f.s0) (.int .i64 f.s1))
 have H2 := Lib.hid (kD.other8 (c := bB) (Ne.symm hne) (.int .i64 f.b0) (.int .i64 f.b1) (.int .i64 f.w0) (.int .i64 f.w1) (.int .i64 f.q0) (.int .i64 f.q1) (.int .i64 f.s0) (.int .i64 f.s1))
 have H3 := Lib.hid (below_set8 hH zB (.int .i64 f.b0) (.int .i64 f.b1) (.int .i64 f.w0) (.int .i64 f.w1) (.int .i64 f.q0) (.int .i64 f.q1) (.int .i64 f.s0) (.int .i64 f.s1))
 clear hH
 go_simp
 refine hK.out _ _ ?_ (fun hH => ?_)
 · exact H3.out
 clear r0 r1 r2 r3 r4 r5 r6 r7 fr0 fr1 fr2 fr3 fr4 fr5 fr6 fr7 zR
 replace kB := H1.out
 replace kD := H2.out
 clear H1 H2 H3
 obtain ⟨Wn, hWn⟩ : ∃ V, Blk.wld kB = V := ⟨_, rfl⟩
 simp only [Blk.wld] at hWn
 rw [hWn] at hH kB kD ⊢
 clear hWn
 clear hK K
 (try simp only [cq])
 refine wpAnyH_ready (rs := [18]) (by kernel_rfl) (by simp) ?_
 refine arc1 none fun K hK => ?_
 obtain ⟨r0, r1, r2, r3, r4, r5, r6, r7⟩ := kD.c8
 have fr0 := kD.free 0
 have fr1 := kD.free 1
 have fr2 := kD.free 2
 have fr3 := kD.free 3
 have fr4 := kD.free 4
 have fr5 := kD.free 5
 have fr6 := kD.free 6
 have fr7 := kD.free 7
 have zR := kD.lt
 have H1 := Lib.hid (kD.set8 (.int .i64 m.b0) (.int .i64 m.b1) (.int .i64 m.w0) (.int .i64 m.w1) (.int .i64 m.q0) (.int .i64 m.q1) (.int .i64 m.s0) (.int .i64 m.s1))
 have H2 := Lib.hid (kB.other8 (c := bD) hne (.int .i64 m.b0) (.int .i64 m.b1) (.int .i64 m.w0) (.int .i64 m.w1) (.int .i64 m.q0) (.int .i64 m.q1) (.int .i64 m.s0) (.int .i64 m.s1))
 have H3 := Lib.hid (below_set8 hH zD (.int .i64 m.b0) (.int .i64 m.b1) (.int .i64 m.w0) (.int .i64 m.w1) (.int .i64 m.q0) (.int .i64 m.q1) (.int .i64 m.s0) (.int .i64 m.s1))
 clear hH
 go_simp
 refine hK.out _ _ ?_ (fun hH => ?_)
 · exact H3.out
 clear r0 r1 r2 r3 r4 r5 r6 r7 fr0 fr1 fr2 fr3 fr4 fr5 fr6 fr7 zR
 replace kD := H1.out
 replace kB := H2.out
 clear H1 H2 H3
 obtain ⟨Wn, hWn⟩ : ∃ V, Blk.wld kB = V := ⟨_, rfl⟩
 simp only [Blk.wld] at hWn
 rw [hWn] at hH kB kD ⊢
 clear hWn
 clear hK K
 (try simp only [cq])
 refine wpAnyH_done (by kernel_rfl) ?_ _
 (try dsimp only [Act.put])
 (try simp only [cq])
 go_wp2_with fail
 go_meet
 exact ⟨bB, bD, rfl, rfl, zB, zD, hne, kB, kD, hH⟩
 }
 exact AllReadyH.nil
 }
 refine arc (some 9) (fun K hK => ?_) ?_
 {
 have zz : B3 ≤ _ := Nat.le_trans zB3 hH.size
 (try (have zx := kD.lt))
 go_simp
 first | refine oA hK ?_ (fun hH hA => ?_) | refine oD hK ?_ (fun hH hA => ?_)
 · exact hH.alloc (Nat.le_trans zB3 hH.size) _
 (try (replace kD := kD.alloc (.cells #[.int .i64 0, .int .i64 0, .int .i64 0, .int .i64 0, .int .i64 0, .int .i64 0, .int .i64 0, .int .i64 0] 28)))
 have kB := hA
 clear hA
 obtain ⟨bB, hbB⟩ : ∃ b, Blk.num kB = b := ⟨_, rfl⟩
 obtain ⟨Wn, hWn⟩ : ∃ V, Blk.wld kB = V := ⟨_, rfl⟩
 simp only [Blk.num] at hbB
 simp only [Blk.wld] at hWn
 rw [hWn] at hH kB ⊢
 (try rw [hWn] at kD)
 rw [hbB] at kB ⊢
 replace zz : B3 ≤ bB := by rw [← hbB]; exact zz
 (try (replace zx : bD < bB := by rw [← hbB]; exact zx))
 have zB := zz
 clear zz hbB hWn
 (try (have hne : bB ≠ bD := by omega))
 clear hK K
 (try simp only [cq])
 refine wpAnyH_ready (rs := [6]) (by kernel_rfl) (by simp) ?_
 refine arc1 (some 63) fun K hK => ?_
 go_simp
 (refine (C1.out _ (jB.trans (hH.mono zwB))).mono ?_; rintro e w' ⟨rfl, hb⟩)
 refine hK.out _ _ ?_ (fun hH => ?_)
 · (exact hH.trans (hb.mono (by have := hH.size; omega)))
 (try (replace kB := kB.call hb))
 (try (replace kD := kD.call hb))
 clear hb
 clear hK K
 (try simp only [cq])
 refine wpAnyH_ready (rs := [14]) (by kernel_rfl) (by simp) ?_
 refine arc1 (some 71) fun K hK => ?_
 go_simp
 (refine (C2.out _).mono ?_; rintro e w' ⟨rfl, hb⟩)
 refine hK.out _ _ ?_ (fun hH => ?_)
 · (exact hH.trans (hb.mono (by have := hH.size; omega)))
 (try (replace kB := kB.call hb))
 (try (replace kD := kD.call hb))
 clear hb
 clear hK K
 (try simp only [cq])
 refine wpAnyH_ready (rs := [17]) (by kernel_rfl) (by simp) ?_
 refine arc1 none fun K hK => ?_
 obtain ⟨r0, r1, r2, r3, r4, r5, r6, r7⟩ := kB.c8
 have fr0 := kB.free 0
 have fr1 := kB.free 1
 have fr2 := kB.free 2
 have fr3 := kB.free 3
 have fr4 := kB.free 4
 have fr5 := kB.free 5
 have fr6 := kB.free 6
 have fr7 := kB.free 7
 have zR := kB.lt
 have H1 := Lib.hid (kB.set8 (.int .i64 f.b0) (.int .i64 f.b1) (.int .i64 f.w0) (.int .i64 f.w1) (.int .i64 f.q0) (.int .i64 f.q1) (.int .i64 f.s0) (.int .i64 f.s1))
 have H2 := Lib.hid (kD.other8 (c := bB) (Ne.symm hne) (.int .i64 f.b0) (.int .i64 f.b1) (.int .i64 f.w0) (.int .i64 f.w1) (.int .i64 f.q0) (.int .i64 f.q1) (.int .i64 f.s0) (.int .i64 f.s1))
 have H3 := Lib.hid (below_set8 hH zB (.int .i64 f.b0) (.int .i64 f.b1) (.int .i64 f.w0) (.int .i64 f.w1) (.int .i64 f.q0) (.int .i64 f.q1) (.int .i64 f.s0) (.int .i64 f.s1))
 clear hH
 go_simp
 refine hK.out _ _ ?_ (fun hH => ?_)
 · exact H3.out
 clear r0 r1 r2 r3 r4 r5 r6 r7 fr0 fr1 fr2 fr3 fr4 fr5 fr6 fr7 zR
 replace kB := H1.out
 replace kD := H2.out
 clear H1 H2 H3
 obtain ⟨Wn, hWn⟩ : ∃ V, Blk.wld kB = V := ⟨_, rfl⟩
 simp only [Blk.wld] at hWn
 rw [hWn] at hH kB kD ⊢
 clear hWn
 clear hK K
 (try simp only [cq])
 refine wpAnyH_ready (rs := [18]) (by kernel_rfl) (by simp) ?_
 refine arc1 none fun K hK => ?_
 obtain ⟨r0, r1, r2, r3, r4, r5, r6, r7⟩ := kD.c8
 have fr0 := kD.free 0
 have fr1 := kD.free 1
 have fr2 := kD.free 2
 have fr3 := kD.free 3
 have fr4 := kD.free 4
 have fr5 := kD.free 5
 have fr6 := kD.free 6
 have fr7 := kD.free 7
 have zR := kD.lt
 have H1 := Lib.hid (kD.set8 (.int .i64 m.b0) (.int .i64 m.b1) (.int .i64 m.w0) (.int .i64 m.w1) (.int .i64 m.q0) (.int .i64 m.q1) (.int .i64 m.s0) (.int .i64 m.s1))
 have H2 := Lib.hid (kB.other8 (c := bD) hne (.int .i64 m.b0) (.int .i64 m.b1) (.int .i64 m.w0) (.int .i64 m.w1) (.int .i64 m.q0) (.int .i64 m.q1) (.int .i64 m.s0) (.int .i64 m.s1))
 have H3 := Lib.hid (below_set8 hH zD (.int .i64 m.b0) (.int .i64 m.b1) (.int .i64 m.w0) (.int .i64 m.w1) (.int .i64 m.q0) (.int .i64 m.q1) (.int .i64 m.s0) (.int .i64 m.s1))
 clear hH
 go_simp
 refine hK.out _ _ ?_ (fun hH => ?_)
 · exact H3.out
 clear r0 r1 r2 r3 r4 r5 r6 r7 fr0 fr1 fr2 fr3 fr4 fr5 fr6 fr7 zR
 replace kD := H1.out
 replace kB := H2.out
 clear H1 H2 H3
 obtain ⟨Wn, hWn⟩ : ∃ V, Blk.wld kB = V := ⟨_, rfl⟩
 simp only [Blk.wld] at hWn
 rw [hWn] at hH kB kD ⊢
 clear hWn
 clear hK K
 (try simp only [cq])
 refine wpAnyH_done (by kernel_rfl) ?_ _
 (try dsimp only [Act.put])
 (try simp only [cq])
 go_wp2_with fail
 go_meet
 exact ⟨bB, bD, rfl, rfl, zB, zD, hne, kB, kD, hH⟩
 }
 exact AllReadyH.nil
 }
 exact AllReadyH.nil )
    case rest =>
      obtain ⟨bC, bE, rfl, rfl, nC, nE, hne, mC, mE, hb⟩ := hcut
      have zq := HB3.out
      rw [← zq] at hb nC nE
      replace j3 := j3.call hb
      replace jB := bwS jB (Nat.le_refl _) hb
      clear C1 C2 zq zB3 zwB HB3 j0 j2 hb
      go_upto_region 7 with fail
      (
 refine wp_region_held_drew (S := (fun w' => Blk w' bC #[.int .i64 f.b0, .int .i64 f.b1, .int .i64 f.w0, .int .i64 f.w1, .int .i64 f.q0, .int .i64 f.q1, .int .i64 f.s0, .int .i64 f.s1] 28 ∧ Blk w' bE #[.int .i64 m.b0, .int .i64 m.b1, .int .i64 m.w0, .int .i64 m.w1, .int .i64 m.q0, .int .i64 m.q1, .int .i64 m.s0, .int .i64 m.s1] 28 ∧ Eight w' (w.heap.size + 1 + 1 + 1) 28 ∧ Below w.heap.size w w')) (by kernel_rfl) ?_ (fun hH => ?_)
 · (try dsimp only); (exact ⟨mC.drew, mE.drew, j3, jB.drew⟩)
 refine tkY 0 (some 72) ?_ ?_ ?_
 rotate_left
 · intro w hS0; (try dsimp only at hS0); obtain ⟨kl, ka, _, _⟩ := hS0; obtain ⟨l0, l1, l2, l3, l4, l5, l6, l7⟩ := kl.c8; obtain ⟨a0, a1, a2, a3, a4, a5, a6, a7⟩ := ka.c8;go_simp; (try with_reducible rfl)
 (try simp only [cq])
 refine tkY 1 (some 73) ?_ ?_ ?_
 rotate_left
 · intro w hS0; (try dsimp only at hS0); obtain ⟨kl, ka, _, _⟩ := hS0; obtain ⟨l0, l1, l2, l3, l4, l5, l6, l7⟩ := kl.c8; obtain ⟨a0, a1, a2, a3, a4, a5, a6, a7⟩ := ka.c8;go_simp; (try with_reducible rfl)
 (try simp only [cq])
 refine tkY 2 (some 74) ?_ ?_ ?_
 rotate_left
 · intro w hS0; (try dsimp only at hS0); obtain ⟨kl, ka, _, _⟩ := hS0; obtain ⟨l0, l1, l2, l3, l4, l5, l6, l7⟩ := kl.c8; obtain ⟨a0, a1, a2, a3, a4, a5, a6, a7⟩ := ka.c8;go_simp; (try with_reducible rfl)
 (try simp only [cq])
 refine tkY 3 (some 75) ?_ ?_ ?_
 rotate_left
 · intro w hS0; (try dsimp only at hS0); obtain ⟨kl, ka, _, _⟩ := hS0; obtain ⟨l0, l1, l2, l3, l4, l5, l6, l7⟩ := kl.c8; obtain ⟨a0, a1, a2, a3, a4, a5, a6, a7⟩ := ka.c8;go_simp; (try with_reducible rfl)
 (try simp only [cq])
 refine tkY 5 (some 77) ?_ ?_ ?_
 rotate_left
 · intro w hS0; (try dsimp only at hS0); obtain ⟨kl, ka, _, _⟩ := hS0; obtain ⟨l0, l1, l2, l3, l4, l5, l6, l7⟩ := kl.c8; obtain ⟨a0, a1, a2, a3, a4, a5, a6, a7⟩ := ka.c8;go_simp; (try with_reducible rfl)
 (try simp only [cq])
 refine tkY 6 (some 78) ?_ ?_ ?_
 rotate_left
 · intro w hS0; (try dsimp only at hS0); obtain ⟨kl, ka, _, _⟩ := hS0; obtain ⟨l0, l1, l2, l3, l4, l5, l6, l7⟩ := kl.c8; obtain ⟨a0, a1, a2, a3, a4, a5, a6, a7⟩ := ka.c8;go_simp; (try with_reducible rfl)
 (try simp only [cq])
 refine tkY 7 (some 79) ?_ ?_ ?_
 rotate_left
 · intro w hS0; (try dsimp only at hS0); obtain ⟨kl, ka, _, _⟩ := hS0; obtain ⟨l0, l1, l2, l3, l4, l5, l6, l7⟩ := kl.c8; obtain ⟨a0, a1, a2, a3, a4, a5, a6, a7⟩ := ka.c8;go_simp; (try with_reducible rfl)
 (try simp only [cq])
 refine tkY 8 (some 80) ?_ ?_ ?_
 rotate_left
 · intro w hS0; (try dsimp only at hS0); obtain ⟨kl, ka, _, _⟩ := hS0; obtain ⟨l0, l1, l2, l3, l4, l5, l6, l7⟩ := kl.c8; obtain ⟨a0, a1, a2, a3, a4, a5, a6, a7⟩ := ka.c8;go_simp; (try with_reducible rfl)
 (try simp only [cq])
 refine tkY 10 (some 82) ?_ ?_ ?_
 rotate_left
 · intro w hS0; (try dsimp only at hS0); obtain ⟨kl, ka, _, _⟩ := hS0; obtain ⟨l0, l1, l2, l3, l4, l5, l6, l7⟩ := kl.c8; obtain ⟨a0, a1, a2, a3, a4, a5, a6, a7⟩ := ka.c8;go_simp; (try with_reducible rfl)
 (try simp only [cq])
 refine tkY 11 (some 83) ?_ ?_ ?_
 rotate_left
 · intro w hS0; (try dsimp only at hS0); obtain ⟨kl, ka, _, _⟩ := hS0; obtain ⟨l0, l1, l2, l3, l4, l5, l6, l7⟩ := kl.c8; obtain ⟨a0, a1, a2, a3, a4, a5, a6, a7⟩ := ka.c8;go_simp; (try with_reducible rfl)
 (try simp only [cq])
 refine tkY 12 (some 84) ?_ ?_ ?_
 rotate_left
 · intro w hS0; (try dsimp only at hS0); obtain ⟨kl, ka, _, _⟩ := hS0; obtain ⟨l0, l1, l2, l3, l4, l5, l6, l7⟩ := kl.c8; obtain ⟨a0, a1, a2, a3, a4, a5, a6, a7⟩ := ka.c8;go_simp; (try with_reducible rfl)
 (try simp only [cq])
 refine tkY 13 (some 85) ?_ ?_ ?_
 rotate_left
 · intro w hS0; (try dsimp only at hS0); obtain ⟨kl, ka, _, _⟩ := hS0; obtain ⟨l0, l1, l2, l3, l4, l5, l6, l7⟩ := kl.c8; obtain ⟨a0, a1, a2, a3, a4, a5, a6, a7⟩ := ka.c8;go_simp; (try with_reducible rfl)
 (try simp only [cq])
 refine tkY 15 (some 87) ?_ ?_ ?_
 rotate_left
 · intro w hS0; (try dsimp only at hS0); obtain ⟨kl, ka, _, _⟩ := hS0; obtain ⟨l0, l1, l2, l3, l4, l5, l6, l7⟩ := kl.c8; obtain ⟨a0, a1, a2, a3, a4, a5, a6, a7⟩ := ka.c8;go_simp; (try with_reducible rfl)
 (try simp only [cq])
 refine tkY 16 (some 88) ?_ ?_ ?_
 rotate_left
 · intro w hS0; (try dsimp only at hS0); obtain ⟨kl, ka, _, _⟩ := hS0; obtain ⟨l0, l1, l2, l3, l4, l5, l6, l7⟩ := kl.c8; obtain ⟨a0, a1, a2, a3, a4, a5, a6, a7⟩ := ka.c8;go_simp; (try with_reducible rfl)
 (try simp only [cq])
 refine tkY 17 (some 89) ?_ ?_ ?_
 rotate_left
 · intro w hS0; (try dsimp only at hS0); obtain ⟨kl, ka, _, _⟩ := hS0; obtain ⟨l0, l1, l2, l3, l4, l5, l6, l7⟩ := kl.c8; obtain ⟨a0, a1, a2, a3, a4, a5, a6, a7⟩ := ka.c8;go_simp; (try with_reducible rfl)
 (try simp only [cq])
 refine tkY 18 (some 90) ?_ ?_ ?_
 rotate_left
 · intro w hS0; (try dsimp only at hS0); obtain ⟨kl, ka, _, _⟩ := hS0; obtain ⟨l0, l1, l2, l3, l4, l5, l6, l7⟩ := kl.c8; obtain ⟨a0, a1, a2, a3, a4, a5, a6, a7⟩ := ka.c8;go_simp; (try with_reducible rfl)
 (try simp only [cq])
 refine wpAnyH_ready (rs := [4]) (by kernel_rfl) (by simp) ?_
 refine arc1 (some 76) fun K hK => ?_
 go_simp
 (refine (H0.out _).mono ?_; rintro e w' ⟨rfl, hb⟩)
 refine hK.out _ _ ?_ ?_
 · (exact ⟨hH.1.call hb, hH.2.1.call hb, hH.2.2.1.call hb, bwS hH.2.2.2 (Nat.le_refl _) hb⟩)
 (try clear hH); (try clear hb)
 intro hH
 clear hK K
 (try simp only [cq])
 refine wpAnyH_ready (rs := [9]) (by kernel_rfl) (by simp) ?_
 refine arc1 (some 81) fun K hK => ?_
 go_simp
 (refine (H1.out _).mono ?_; rintro e w' ⟨rfl, hb⟩)
 refine hK.out _ _ ?_ ?_
 · (exact ⟨hH.1.call hb, hH.2.1.call hb, hH.2.2.1.call hb, bwS hH.2.2.2 (Nat.le_refl _) hb⟩)
 (try clear hH); (try clear hb)
 intro hH
 clear hK K
 (try simp only [cq])
 refine wpAnyH_ready (rs := [14]) (by kernel_rfl) (by simp) ?_
 refine arc1 (some 86) fun K hK => ?_
 go_simp
 (refine (H2.out _).mono ?_; rintro e w' ⟨rfl, hb⟩)
 refine hK.out _ _ ?_ ?_
 · (exact ⟨hH.1.call hb, hH.2.1.call hb, hH.2.2.1.call hb, bwS hH.2.2.2 (Nat.le_refl _) hb⟩)
 (try clear hH); (try clear hb)
 intro hH
 clear hK K
 (try simp only [cq])
 refine wpAnyH_ready (rs := [19]) (by kernel_rfl) (by simp) ?_
 refine arc1 (some 91) fun K hK => ?_
 go_simp
 (refine (H3.out _).mono ?_; rintro e w' ⟨rfl, hb⟩)
 refine hK.out _ _ ?_ ?_
 · (exact ⟨hH.1.call hb, hH.2.1.call hb, hH.2.2.1.call hb, bwS hH.2.2.2 (Nat.le_refl _) hb⟩)
 (try clear hH); (try clear hb)
 intro hH
 clear hK K
 (try simp only [cq])
 refine tkY 20 (some 92) ?_ ?_ ?_
 rotate_left
 · intro w _; go_simp; (try with_reducible rfl)
 (try simp only [cq])
 refine wpAnyH_ready (rs := [21]) (by kernel_rfl) (by simp) ?_
 refine arc1 none fun K hK => ?_
 obtain ⟨h1, h2, ⟨x0, x1, x2, x3, x4, x5, x6, x7, hR⟩, hD⟩ := hH
 obtain ⟨r0, r1, r2, r3, r4, r5, r6, r7⟩ := hR.c8
 have fr0 := hR.free 0
 have fr1 := hR.free 1
 have fr2 := hR.free 2
 have fr3 := hR.free 3
 have fr4 := hR.free 4
 have fr5 := hR.free 5
 have fr6 := hR.free 6
 have fr7 := hR.free 7
 have zR := hR.lt
 have HS := Lib.hid (hR.set8 (.int .i64 y.b0) (.int .i64 y.b1) (.int .i64 y.w0) (.int .i64 y.w1) (.int .i64 y.q0) (.int .i64 y.q1) (.int .i64 y.s0) (.int .i64 y.s1))
 have HD := Lib.hid (below_set8 (c := w.heap.size + 1 + 1 + 1) hD (by omega) (.int .i64 y.b0) (.int .i64 y.b1) (.int .i64 y.w0) (.int .i64 y.w1) (.int .i64 y.q0) (.int .i64 y.q1) (.int .i64 y.s0) (.int .i64 y.s1))
 go_simp
 refine hK.out _ _ ?_ ?_
 · exact ⟨h1.other8 (by omega) _ _ _ _ _ _ _ _, h2.other8 (by omega) _ _ _ _ _ _ _ _, ⟨_, _, _, _, _, _, _, _, HS.out⟩, HD.out⟩
 (try clear hH); (try clear hb)
 intro hH
 clear hK K
 (try simp only [cq])
 refine wpAnyH_done (by kernel_rfl) ?_ _
 (try dsimp only [Act.put])
 (try simp only [cq])
 clear r0 r1 r2 r3 r4 r5 r6 r7 fr0 fr1 fr2 fr3 fr4 fr5 fr6 fr7 zR hD h1 h2 hR hH
 obtain ⟨z0, z1, z2, z3, z4, z5, z6, z7⟩ := HS.out.c8
 go_wp2
 exact bodyPost_ret (v := .agg #[.int .i64 y.b0, .int .i64 y.b1, .int .i64 y.w0, .int .i64 y.w1, .int .i64 y.q0, .int .i64 y.q1, .int .i64 y.s0, .int .i64 y.s1]) (by simp [results, Tryz.results64, go_sem, z0, z1, z2, z3, z4, z5, z6, z7]) rfl ⟨rfl, HD.out⟩ )

theorem rstep_any (l : Lw) (x : Ic) (d : Dy) (va : Option Addr) (vcap : Nat) (w : World) (hl : l.Ok) (hn : l.n ≤ 1000000) (hv : CovAt w (.slice va l.n vcap) l.n l.D l.P0 l.P1) (hx : x.In 400000000) (hd : d.Ok) (y : Ic) (hy : y = stepI l x d) :
    Calls Tryz.prog 64 #[.agg #[.int .i64 l.gr, .int .i64 l.la, (.slice va l.n vcap), .int .i64 l.m0, .int .i64 l.m1, .int .i64 l.so, .int .i64 l.h0, .int .i64 l.h1], .agg #[.int .i64 x.b0, .int .i64 x.b1, .int .i64 x.w0, .int .i64 x.w1, .int .i64 x.q0, .int .i64 x.q1, .int .i64 x.s0, .int .i64 x.s1], .agg #[.int .i64 d.c0, .int .i64 d.c1, .int .i64 d.f0, .int .i64 d.f1, .int .i64 d.wa, .bool d.cl]] w fun e w' => e = .returned (.agg #[.int .i64 y.b0, .int .i64 y.b1, .int .i64 y.w0, .int .i64 y.w1, .int .i64 y.q0, .int .i64 y.q1, .int .i64 y.s0, .int .i64 y.s1]) ∧ Below w.heap.size w w' := by
  unfold stepI at hy
  by_cases h0 : 0 ≤ d.c0
  · rw [if_pos h0] at hy
    exact rstep_cold l x d va vcap w hl hn hv hx hd h0 y hy
  · rw [if_neg h0] at hy
    by_cases h1 : d.c1 < 0
    · rw [if_pos h1] at hy
      exact rstep_warm l x d va vcap w hl hn hv hx hd h1 y hy
    · rw [if_neg h1] at hy
      exact rstep_both l x d va vcap w hl hn hv hx hd (by omega) (by omega) y hy
end Go.Proofs.YtdbiijldincoiaaGreat

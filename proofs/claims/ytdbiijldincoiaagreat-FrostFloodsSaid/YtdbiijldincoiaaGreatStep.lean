/-
  A day without warmth: the contract of frost.step there, and of (box).ice.
-/
import Derived.Test.YtdbiijldincoiaaGreatTail
import Derived.Test.YtdbiijldincoiaaGreatCover2
import Derived.Test.YtdbiijldincoiaaGreatBase
set_option linter.unusedVariables false
set_option linter.unusedSimpArgs false
namespace Go.Proofs.YtdbiijldincoiaaGreat
open Go.RowKit

structure Lw where
  gr : Int
  la : Int
  n : Nat
  D : Nat → Int
  P0 : Nat → Int
  P1 : Nat → Int
  m0 : Int
  m1 : Int
  so : Int
  h0 : Int
  h1 : Int

structure Lw.Ok (l : Lw) : Prop where
  g0 : 0 ≤ l.gr
  g1 : l.gr ≤ 10000
  a0 : 1 ≤ l.la
  a1 : l.la ≤ 1000
  n1 : 1 ≤ l.n
  p0 : ∀ i, i < l.n → 0 ≤ l.P0 i ∧ l.P0 i ≤ 1000000
  p1 : ∀ i, i < l.n → 0 ≤ l.P1 i ∧ l.P1 i ≤ 1000000
  m0 : 0 ≤ l.m0
  m1 : l.m0 ≤ l.m1
  m2 : l.m1 ≤ 10000000
  o0 : 0 ≤ l.so
  o1 : l.so ≤ 1000000
  h0 : 0 ≤ l.h0
  h1 : l.h0 ≤ l.h1
  h2 : l.h1 ≤ 1000000
structure Dy.Ok (d : Dy) : Prop where
  c0 : -1000 ≤ d.c0
  c1 : d.c0 ≤ d.c1
  c2 : d.c1 ≤ 1000
  f0 : 0 ≤ d.f0
  f1 : d.f0 ≤ d.f1
  f2 : d.f1 ≤ 1000
  w0 : 0 ≤ d.wa
  w1 : d.wa ≤ 200
def openI (l : Lw) (x : Ic) (d : Dy) : Ic := ⟨x.b0, x.b1, x.w0, x.w1, wetP d.wa x.q0 (snowP d.cl x.s0 d.f0) l.so, wetP d.wa x.q1 (snowP d.cl x.s1 d.f1) l.so, leftP d.wa (snowP d.cl x.s0 d.f0), leftP d.wa (snowP d.cl x.s1 d.f1)⟩
def coldI (l : Lw) (x : Ic) (c0 c1 : Int) : Ic :=
  let G0 := gotL c0 (lastP l.D l.P0 x.s1 l.n)
  let G1 := gotH c1 (lastP l.D l.P1 x.s0 l.n)
  ⟨grownP rtI l.gr l.la x.b0 x.w1 x.q1 G0, grownP rfI l.gr l.la x.b1 x.w0 x.q0 G1, x.w0 + min x.q0 (G0 / l.la), x.w1 + min x.q1 (G1 / l.la), x.q0 - min x.q0 (G1 / l.la), x.q1 - min x.q1 (G0 / l.la), x.s0, x.s1⟩

theorem open_in {l : Lw} {x : Ic} {d : Dy} (hl : l.Ok) (hx : x.In 400000000) (hd : d.Ok) : (openI l x d).In 1000000000 := by
  obtain ⟨a1, a2, a3, a4, a5, a6, a7, a8, a9, a10, a11, a12, a13, a14, a15, a16⟩ := hx
  have hc := hd.f0
  have hc1 := hd.f1
  have hc2 := hd.f2
  have hw0 := hd.w0
  have hw1 := hd.w1
  have S0 : 0 ≤ snowP d.cl x.s0 d.f0 ∧ snowP d.cl x.s0 d.f0 ≤ 400001000 := by unfold snowP; split <;> omega
  have S1 : 0 ≤ snowP d.cl x.s1 d.f1 ∧ snowP d.cl x.s1 d.f1 ≤ 400001000 := by unfold snowP; split <;> omega
  have K0 : 0 ≤ soakP (snowP d.cl x.s0 d.f0) l.so ∧ soakP (snowP d.cl x.s0 d.f0) l.so ≤ 400001000 := by
    have h1 : 0 ≤ snowP d.cl x.s0 d.f0 * l.so := Int.mul_nonneg S0.1 hl.o0
    have h2 : snowP d.cl x.s0 d.f0 * l.so ≤ 400001000 * 1000000 := Int.mul_le_mul S0.2 hl.o1 hl.o0 (by omega)
    unfold soakP; omega
  have K1 : 0 ≤ soakP (snowP d.cl x.s1 d.f1) l.so ∧ soakP (snowP d.cl x.s1 d.f1) l.so ≤ 400001000 := by
    have h1 : 0 ≤ snowP d.cl x.s1 d.f1 * l.so := Int.mul_nonneg S1.1 hl.o0
    have h2 : snowP d.cl x.s1 d.f1 * l.so ≤ 400001000 * 1000000 := Int.mul_le_mul S1.2 hl.o1 hl.o0 (by omega)
    unfold soakP; omega
  unfold openI wetP leftP
  constructor <;> dsimp only <;> (try split) <;> omega

theorem boxice_any (b0 b1 w0 w1 q0 q1 s0 s1 : Int) (w : World) :
    Calls Tryz.prog 77 #[.agg #[.int .i64 b0, .int .i64 b1, .int .i64 w0, .int .i64 w1, .int .i64 q0, .int .i64 q1, .int .i64 s0, .int .i64 s1]] w fun e w' => e = .returned (.agg #[.int .i64 b0, .int .i64 b1, .int .i64 w0, .int .i64 w1, .int .i64 q0, .int .i64 q1, .int .i64 s0, .int .i64 s1]) ∧ Below w.heap.size w w' := by
  go_enter Tryz.func77, Tryz.ntmps77
  go_wp2
  refine bodyPost_ret (v := .agg #[.int .i64 b0, .int .i64 b1, .int .i64 w0, .int .i64 w1, .int .i64 q0, .int .i64 q1, .int .i64 s0, .int .i64 s1]) (by simp [results, Tryz.results77, go_sem]) rfl ⟨rfl, by (repeat (first | exact Below.refl _ _ | assumption | refine Below.drew ?_ | refine Below.drewN ?_ _ | refine blT ?_ | refine blU ?_))⟩

set_option maxRecDepth 100000 in
set_option maxHeartbeats 8000000 in
theorem step_cold (l : Lw) (x : Ic) (d : Dy) (va : Option Addr) (cap : Nat) (w : World) (hv : CovAt w (.slice va l.n cap) l.n l.D l.P0 l.P1) (hl : l.Ok) (hx : x.In 400000000) (hd : d.Ok) (hc : 0 ≤ d.c0) (y : Ic) (hy : y = coldI l (openI l x d) d.c0 d.c1) :
    Calls Tryz.prog 55 #[.agg #[.int .i64 l.gr, .int .i64 l.la, (.slice va l.n cap), .int .i64 l.m0, .int .i64 l.m1, .int .i64 l.so, .int .i64 l.h0, .int .i64 l.h1], .agg #[.int .i64 x.b0, .int .i64 x.b1, .int .i64 x.w0, .int .i64 x.w1, .int .i64 x.q0, .int .i64 x.q1, .int .i64 x.s0, .int .i64 x.s1], .agg #[.int .i64 d.c0, .int .i64 d.c1, .int .i64 d.f0, .int .i64 d.f1, .int .i64 d.wa, .bool d.cl]] w
      fun e w' => e = .returned (.agg #[.int .i64 y.b0, .int .i64 y.b1, .int .i64 y.w0, .int .i64 y.w1, .int .i64 y.q0, .int .i64 y.q1, .int .i64 y.s0, .int .i64 y.s1]) ∧ Below w.heap.size w w' := by
  obtain ⟨o, ho⟩ : ∃ o, openI l x d = o := ⟨_, rfl⟩
  have hoi := open_in hl hx hd
  rw [ho] at hoi hy
  have hC : ∀ W, Calls Tryz.prog 75 #[.agg #[.int .i64 l.gr, .int .i64 l.la, (.slice va l.n cap), .int .i64 l.m0, .int .i64 l.m1, .int .i64 l.so, .int .i64 l.h0, .int .i64 l.h1], .agg #[.int .i64 x.b0, .int .i64 x.b1, .int .i64 x.w0, .int .i64 x.w1, .int .i64 x.q0, .int .i64 x.q1, .int .i64 x.s0, .int .i64 x.s1], .agg #[.int .i64 d.c0, .int .i64 d.c1, .int .i64 d.f0, .int .i64 d.f1, .int .i64 d.wa, .bool d.cl]] W
      fun e w' => e = .returned (.agg #[.int .i64 o.b0, .int .i64 o.b1, .int .i64 o.w0, .int .i64 o.w1, .int .i64 o.q0, .int .i64 o.q1, .int .i64 o.s0, .int .i64 o.s1]) ∧ Below W.heap.size W w' := fun W => by
    rw [← ho]
    exact fcover_any _ _ _ _ _ _ _ _ _ _ _ _ _ _ _ _ _ _ _ _ _ _ W ⟨_, _, _, rfl⟩ hl.o0 hl.o1 hx.q0 (by have := hx.q0'; omega) hx.q1 (by have := hx.q1'; omega) hx.s0 (by have := hx.s0'; omega) hx.s1 (by have := hx.s1'; omega) hd.f0 (by have := hd.f1; have := hd.f2; omega) (by have := hd.f0; have := hd.f1; omega) hd.f2 hd.w1
  have hF : ∀ W, Below w.heap.size w W → Calls Tryz.prog 78 #[.agg #[.int .i64 l.gr, .int .i64 l.la, (.slice va l.n cap), .int .i64 l.m0, .int .i64 l.m1, .int .i64 l.so, .int .i64 l.h0, .int .i64 l.h1], .agg #[.int .i64 o.b0, .int .i64 o.b1, .int .i64 o.w0, .int .i64 o.w1, .int .i64 o.q0, .int .i64 o.q1, .int .i64 o.s0, .int .i64 o.s1], .agg #[.int .i64 d.c0, .int .i64 d.c1]] W
      fun e w' => e = .returned (.agg #[.int .i64 y.b0, .int .i64 y.b1, .int .i64 y.w0, .int .i64 y.w1, .int .i64 y.q0, .int .i64 y.q1, .int .i64 y.s0, .int .i64 y.s1]) ∧ Below W.heap.size W w' := fun W hW => by
    rw [hy]
    exact freeze_any _ _ _ _ _ _ _ _ _ _ _ _ _ _ _ _ _ _ _ _ _ _ W hl.n1 (hv.later hW) hl.p0 hl.p1 hl.g0 hl.g1 hl.a0 hoi.b0 hoi.b0' hoi.b1 hoi.b1' hoi.w0 hoi.w0' hoi.w1 hoi.w1' hoi.q0 hoi.q0' hoi.q1 hoi.q1' hc (by have := hd.c1; have := hd.c2; omega) (by have := hd.c1; omega) hd.c2 _ _ rfl rfl
  have hc1 : 0 ≤ d.c1 := by have := hd.c1; omega
  have hcc : d.c1 ≤ 1000 := hd.c2
  have HC := Lib.hid hC
  have HF := Lib.hid hF
  clear hC hF hv hl hx hd ho hoi hy
  go_enter Tryz.func55, Tryz.ntmps55
  go_wp2_with fail
  have T0 : Eight ((((w.alloc (.cells #[.int .i64 l.gr, .int .i64 l.la, .slice va l.n cap, .int .i64 l.m0, .int .i64 l.m1, .int .i64 l.so, .int .i64 l.h0, .int .i64 l.h1] 26)).alloc (.cells #[.int .i64 x.b0, .int .i64 x.b1, .int .i64 x.w0, .int .i64 x.w1, .int .i64 x.q0, .int .i64 x.q1, .int .i64 x.s0, .int .i64 x.s1] 28)).alloc (.cells #[.int .i64 d.c0, .int .i64 d.c1, .int .i64 d.f0, .int .i64 d.f1, .int .i64 d.wa, .bool d.cl] 58)).alloc (.cells #[.int .i64 0, .int .i64 0, .int .i64 0, .int .i64 0, .int .i64 0, .int .i64 0, .int .i64 0, .int .i64 0] 28)).drew (w.heap.size + 1 + 1 + 1) 28 := ⟨_, _, _, _, _, _, _, _, (Blk.new3 w (.cells #[.int .i64 l.gr, .int .i64 l.la, .slice va l.n cap, .int .i64 l.m0, .int .i64 l.m1, .int .i64 l.so, .int .i64 l.h0, .int .i64 l.h1] 26) (.cells #[.int .i64 x.b0, .int .i64 x.b1, .int .i64 x.w0, .int .i64 x.w1, .int .i64 x.q0, .int .i64 x.q1, .int .i64 x.s0, .int .i64 x.s1] 28) (.cells #[.int .i64 d.c0, .int .i64 d.c1, .int .i64 d.f0, .int .i64 d.f1, .int .i64 d.wa, .bool d.cl] 58) #[.int .i64 0, .int .i64 0, .int .i64 0, .int .i64 0, .int .i64 0, .int .i64 0, .int .i64 0, .int .i64 0] 28).drew⟩
  have T1 : Blk ((((w.alloc (.cells #[.int .i64 l.gr, .int .i64 l.la, .slice va l.n cap, .int .i64 l.m0, .int .i64 l.m1, .int .i64 l.so, .int .i64 l.h0, .int .i64 l.h1] 26)).alloc (.cells #[.int .i64 x.b0, .int .i64 x.b1, .int .i64 x.w0, .int .i64 x.w1, .int .i64 x.q0, .int .i64 x.q1, .int .i64 x.s0, .int .i64 x.s1] 28)).alloc (.cells #[.int .i64 d.c0, .int .i64 d.c1, .int .i64 d.f0, .int .i64 d.f1, .int .i64 d.wa, .bool d.cl] 58)).alloc (.cells #[.int .i64 0, .int .i64 0, .int .i64 0, .int .i64 0, .int .i64 0, .int .i64 0, .int .i64 0, .int .i64 0] 28)).drew w.heap.size #[.int .i64 l.gr, .int .i64 l.la, .slice va l.n cap, .int .i64 l.m0, .int .i64 l.m1, .int .i64 l.so, .int .i64 l.h0, .int .i64 l.h1] 26 := ((((Blk.new w _ _).alloc _).alloc _).alloc _).drew
  have T2 : Blk ((((w.alloc (.cells #[.int .i64 l.gr, .int .i64 l.la, .slice va l.n cap, .int .i64 l.m0, .int .i64 l.m1, .int .i64 l.so, .int .i64 l.h0, .int .i64 l.h1] 26)).alloc (.cells #[.int .i64 x.b0, .int .i64 x.b1, .int .i64 x.w0, .int .i64 x.w1, .int .i64 x.q0, .int .i64 x.q1, .int .i64 x.s0, .int .i64 x.s1] 28)).alloc (.cells #[.int .i64 d.c0, .int .i64 d.c1, .int .i64 d.f0, .int .i64 d.f1, .int .i64 d.wa, .bool d.cl] 58)).alloc (.cells #[.int .i64 0, .int .i64 0, .int .i64 0, .int .i64 0, .int .i64 0, .int .i64 0, .int .i64 0, .int .i64 0] 28)).drew (w.heap.size + 1) #[.int .i64 x.b0, .int .i64 x.b1, .int .i64 x.w0, .int .i64 x.w1, .int .i64 x.q0, .int .i64 x.q1, .int .i64 x.s0, .int .i64 x.s1] 28 := (((Blk.new1 w _ _ _).alloc _).alloc _).drew
  have T3 : Blk ((((w.alloc (.cells #[.int .i64 l.gr, .int .i64 l.la, .slice va l.n cap, .int .i64 l.m0, .int .i64 l.m1, .int .i64 l.so, .int .i64 l.h0, .int .i64 l.h1] 26)).alloc (.cells #[.int .i64 x.b0, .int .i64 x.b1, .int .i64 x.w0, .int .i64 x.w1, .int .i64 x.q0, .int .i64 x.q1, .int .i64 x.s0, .int .i64 x.s1] 28)).alloc (.cells #[.int .i64 d.c0, .int .i64 d.c1, .int .i64 d.f0, .int .i64 d.f1, .int .i64 d.wa, .bool d.cl] 58)).alloc (.cells #[.int .i64 0, .int .i64 0, .int .i64 0, .int .i64 0, .int .i64 0, .int .i64 0, .int .i64 0, .int .i64 0] 28)).drew (w.heap.size + 1 + 1) #[.int .i64 d.c0, .int .i64 d.c1, .int .i64 d.f0, .int .i64 d.f1, .int .i64 d.wa, .bool d.cl] 58 := ((Blk.new2 w _ _ _ _).alloc _).drew
  (
 refine wp_region_held_drew (S := (fun w' => Blk w' w.heap.size #[.int .i64 l.gr, .int .i64 l.la, .slice va l.n cap, .int .i64 l.m0, .int .i64 l.m1, .int .i64 l.so, .int .i64 l.h0, .int .i64 l.h1] 26 ∧ Blk w' (w.heap.size + 1) #[.int .i64 x.b0, .int .i64 x.b1, .int .i64 x.w0, .int .i64 x.w1, .int .i64 x.q0, .int .i64 x.q1, .int .i64 x.s0, .int .i64 x.s1] 28 ∧ Blk w' (w.heap.size + 1 + 1) #[.int .i64 d.c0, .int .i64 d.c1, .int .i64 d.f0, .int .i64 d.f1, .int .i64 d.wa, .bool d.cl] 58 ∧ Eight w' (w.heap.size + 1 + 1 + 1) 28 ∧ Below w.heap.size w w')) (by kernel_rfl) ?_ (fun hH => ?_)
 · (try dsimp only); (exact ⟨T1, T2, T3, T0, by (repeat (first | exact Below.refl _ _ | assumption | refine Below.drew ?_ | refine Below.drewN ?_ _ | refine blT ?_ | refine blU ?_))⟩)
 refine tkY 0 (some 10) ?_ ?_ ?_
 rotate_left
 · intro w hS0; (try dsimp only at hS0); obtain ⟨kl, ki, kd, _, _⟩ := hS0; obtain ⟨l0, l1, l2, l3, l4, l5, l6, l7⟩ := kl.c8; obtain ⟨i0, i1, i2, i3, i4, i5, i6, i7⟩ := ki.c8; obtain ⟨d0, d1, d2, d3, d4, d5⟩ := kd.c6;go_simp; (try with_reducible rfl)
 (try simp only [cq])
 refine tkY 1 (some 11) ?_ ?_ ?_
 rotate_left
 · intro w hS0; (try dsimp only at hS0); obtain ⟨kl, ki, kd, _, _⟩ := hS0; obtain ⟨l0, l1, l2, l3, l4, l5, l6, l7⟩ := kl.c8; obtain ⟨i0, i1, i2, i3, i4, i5, i6, i7⟩ := ki.c8; obtain ⟨d0, d1, d2, d3, d4, d5⟩ := kd.c6;go_simp; (try with_reducible rfl)
 (try simp only [cq])
 refine tkY 3 (some 13) ?_ ?_ ?_
 rotate_left
 · intro w hS0; (try dsimp only at hS0); obtain ⟨kl, ki, kd, _, _⟩ := hS0; obtain ⟨l0, l1, l2, l3, l4, l5, l6, l7⟩ := kl.c8; obtain ⟨i0, i1, i2, i3, i4, i5, i6, i7⟩ := ki.c8; obtain ⟨d0, d1, d2, d3, d4, d5⟩ := kd.c6;go_simp; (try with_reducible rfl)
 (try simp only [cq])
 refine wpAnyH_ready (rs := [2, 5]) (by kernel_rfl) (by simp) ?_
 refine arc (some 12) (fun K hK => ?_) ?_
 {
 go_simp
 (refine (known_any _ _ _ _ _ _ _ _ _).mono ?_; rintro e w' ⟨rfl, hb⟩; (try replace hA := hA.call hb))
 refine hK.out _ _ ?_ (fun hH => ?_)
 · (first | (exact ⟨hH.1.call hb, hH.2.1.call hb, hH.2.2.1.call hb, hH.2.2.2.1.call hb, bwS hH.2.2.2.2 (Nat.le_refl _) hb⟩))
 clear hK K
 (try simp only [cq])
 refine wpAnyH_ready (rs := [4, 5]) (by kernel_rfl) (by simp) ?_
 refine arc (some 14) (fun K hK => ?_) ?_
 {
 go_simp
 (refine (HC.out _).mono ?_; rintro e w' ⟨rfl, hb⟩; (try replace hA := hA.call hb))
 refine hK.out _ _ ?_ (fun hH => ?_)
 · (first | (exact ⟨hH.1.call hb, hH.2.1.call hb, hH.2.2.1.call hb, hH.2.2.2.1.call hb, bwS hH.2.2.2.2 (Nat.le_refl _) hb⟩))
 clear hK K
 (try simp only [cq])
 refine wpAnyH_ready (rs := [5]) (by kernel_rfl) (by simp) ?_
 refine arc1 (some 7) fun K hK => ?_
 (have hN := hH.2.2.2.1.lt; have hPre := hH)
 go_simp
 first | refine oA hK ?_ (fun hH hA => ?_) | refine oD hK ?_ (fun hH hA => ?_)
 · exact ⟨hH.1.alloc _, hH.2.1.alloc _, hH.2.2.1.alloc _, hH.2.2.2.1.alloc _, bwA hH.2.2.2.2 (Nat.le_refl _) _⟩
 (try simp only [World.size_alloc] at hA)
 clear hK K
 (try simp only [cq])
 refine wpAnyH_ready (rs := [6]) (by kernel_rfl) (by simp) ?_
 refine arc1 none fun K hK => ?_
 (obtain ⟨a0, a1, a2, a3, a4, a5, a6, a7⟩ := hA.c8; have r0 := hA.free 0; have r1 := hA.free 1; have r2 := hA.free 2; have r3 := hA.free 3; have r4 := hA.free 4; have r5 := hA.free 5; have r6 := hA.free 6; have r7 := hA.free 7; (try simp at hN))
 go_simp
 refine hK.out _ _ ?_ (fun hH => ?_)
 · first | (with_reducible exact ⟨hPre.1.alloc _, hPre.2.1.alloc _, hPre.2.2.1.alloc _, hPre.2.2.2.1.alloc _, bwA hPre.2.2.2.2 (Nat.le_refl _) _⟩) | (refine ⟨?_, ?_, ?_, ?_, ?_⟩; (iterate 8 refine Blk.other ?_ _ _ (by first | (simp; done) | (simp; omega))); (exact hH.1); (iterate 8 refine Blk.other ?_ _ _ (by first | (simp; done) | (simp; omega))); (exact hH.2.1); (iterate 8 refine Blk.other ?_ _ _ (by first | (simp; done) | (simp; omega))); (exact hH.2.2.1); (iterate 8 refine Eight.other ?_ _ _ (by first | (simp; done) | (simp; omega))); (exact hH.2.2.2.1); (iterate 8 refine Below.setCell ?_ (by first | (simp; done) | (simp; omega)) _); (exact hH.2.2.2.2))
 clear hK K
 (try simp only [cq])
 refine wpAnyH_done (by kernel_rfl) ?_ _
 (try dsimp only [Act.put])
 (try simp only [cq])
 first | (have hA2 := hA.set8 (.int .i64 o.b0) (.int .i64 o.b1) (.int .i64 o.w0) (.int .i64 o.w1) (.int .i64 o.q0) (.int .i64 o.q1) (.int .i64 o.s0) (.int .i64 o.s1); obtain ⟨kl, ki, kd, kr, hBB⟩ := hH; obtain ⟨V, hV⟩ : ∃ V, Blk.wld hA2 = V := ⟨_, rfl⟩; simp only [Blk.wld] at hV; rw [hV] at kl ki kd kr hBB hA2 ⊢; clear hV hA) | (have hA2 := Blk.new w' #[.int .i64 o.b0, .int .i64 o.b1, .int .i64 o.w0, .int .i64 o.w1, .int .i64 o.q0, .int .i64 o.q1, .int .i64 o.s0, .int .i64 o.s1] 105; obtain ⟨kl, ki, kd, kr, hBB⟩ := hH; obtain ⟨V, hV⟩ : ∃ V, Blk.wld hA2 = V := ⟨_, rfl⟩; simp only [Blk.wld] at hV; rw [hV] at kl ki kd kr hBB hA2 ⊢; clear hV hA)
 obtain ⟨d0, d1, d2, d3, d4, d5⟩ := kd.c6
 obtain ⟨a0, a1, a2, a3, a4, a5, a6, a7⟩ := hA2.c8
 obtain ⟨l0, l1, l2, l3, l4, l5, l6, l7⟩ := kl.c8
 have zD := kd.lt
 have zA := hA2.lt
 have zL := kl.lt
 have zD2 := Nat.lt_succ_of_lt zD
 have zA2 := Nat.lt_succ_of_lt zA
 have zL2 := Nat.lt_succ_of_lt zL
 simp only [Nat.succ_eq_add_one] at zD2 zA2 zL2
 have hm : max d.c0 0 = d.c0 := by omega
 go_wp2_with fail
 refine (HF.out _ ?_).mono ?_
 · exact bwA (bwA hBB (Nat.le_refl _) _) (Nat.le_refl _) _
 rintro e w9 ⟨rfl, hb9⟩
 have jB := bwS (bwA (bwA hBB (Nat.le_refl _) _) (Nat.le_refl _) _) (Nat.le_refl _) hb9
 have jR := ((kr.alloc _).alloc _).call hb9
 clear zD2 zA2 zL2 hb9 kr hBB a0 a1 a2 a3 a4 a5 a6 a7 l0 l1 l2 l3 l4 l5 l6 l7 d0 d1 d2 d3 d4 d5 zD zA zL hm
 go_wp2_with fail
 refine (boxice_any _ _ _ _ _ _ _ _ _).mono ?_
 rintro e w10 ⟨rfl, hb10⟩
 replace jB := bwS jB (Nat.le_refl _) hb10
 replace jR := jR.call hb10
 clear hb10
 obtain ⟨x0, x1, x2, x3, x4, x5, x6, x7, hR⟩ := jR
 obtain ⟨a0, a1, a2, a3, a4, a5, a6, a7⟩ := hR.c8
 have r0 := hR.free 0
 have r1 := hR.free 1
 have r2 := hR.free 2
 have r3 := hR.free 3
 have r4 := hR.free 4
 have r5 := hR.free 5
 have r6 := hR.free 6
 have r7 := hR.free 7
 have HQ := Lib.hid (hR.set8 (.int .i64 y.b0) (.int .i64 y.b1) (.int .i64 y.w0) (.int .i64 y.w1) (.int .i64 y.q0) (.int .i64 y.q1) (.int .i64 y.s0) (.int .i64 y.s1)).c8
 go_wp2
 obtain ⟨z0, z1, z2, z3, z4, z5, z6, z7⟩ := HQ.out
 refine bodyPost_ret (v := .agg #[.int .i64 y.b0, .int .i64 y.b1, .int .i64 y.w0, .int .i64 y.w1, .int .i64 y.q0, .int .i64 y.q1, .int .i64 y.s0, .int .i64 y.s1]) (by simp [results, Tryz.results55, go_sem, z0, z1, z2, z3, z4, z5, z6, z7]) rfl ⟨rfl, ?_⟩
 iterate 8 refine Below.setCell ?_ (by simp; omega) _
 exact jB
 }
 refine arc (some 7) (fun K hK => ?_) ?_
 {
 (have hN := hH.2.2.2.1.lt; have hPre := hH)
 go_simp
 first | refine oA hK ?_ (fun hH hA => ?_) | refine oD hK ?_ (fun hH hA => ?_)
 · exact ⟨hH.1.alloc _, hH.2.1.alloc _, hH.2.2.1.alloc _, hH.2.2.2.1.alloc _, bwA hH.2.2.2.2 (Nat.le_refl _) _⟩
 (try simp only [World.size_alloc] at hA)
 clear hK K
 (try simp only [cq])
 refine wpAnyH_ready (rs := [4]) (by kernel_rfl) (by simp) ?_
 refine arc1 (some 14) fun K hK => ?_
 go_simp
 (refine (HC.out _).mono ?_; rintro e w' ⟨rfl, hb⟩; (try replace hA := hA.call hb))
 refine hK.out _ _ ?_ (fun hH => ?_)
 · (first | (exact ⟨hH.1.call hb, hH.2.1.call hb, hH.2.2.1.call hb, hH.2.2.2.1.call hb, bwS hH.2.2.2.2 (Nat.le_refl _) hb⟩))
 clear hK K
 (try simp only [cq])
 refine wpAnyH_ready (rs := [6]) (by kernel_rfl) (by simp) ?_
 refine arc1 none fun K hK => ?_
 (obtain ⟨a0, a1, a2, a3, a4, a5, a6, a7⟩ := hA.c8; have r0 := hA.free 0; have r1 := hA.free 1; have r2 := hA.free 2; have r3 := hA.free 3; have r4 := hA.free 4; have r5 := hA.free 5; have r6 := hA.free 6; have r7 := hA.free 7; (try simp at hN))
 go_simp
 refine hK.out _ _ ?_ (fun hH => ?_)
 · first | (with_reducible exact ⟨hPre.1.alloc _, hPre.2.1.alloc _, hPre.2.2.1.alloc _, hPre.2.2.2.1.alloc _, bwA hPre.2.2.2.2 (Nat.le_refl _) _⟩) | (refine ⟨?_, ?_, ?_, ?_, ?_⟩; (iterate 8 refine Blk.other ?_ _ _ (by first | (simp; done) | (simp; omega))); (exact hH.1); (iterate 8 refine Blk.other ?_ _ _ (by first | (simp; done) | (simp; omega))); (exact hH.2.1); (iterate 8 refine Blk.other ?_ _ _ (by first | (simp; done) | (simp; omega))); (exact hH.2.2.1); (iterate 8 refine Eight.other ?_ _ _ (by first | (simp; done) | (simp; omega))); (exact hH.2.2.2.1); (iterate 8 refine Below.setCell ?_ (by first | (simp; done) | (simp; omega)) _); (exact hH.2.2.2.2))
 clear hK K
 (try simp only [cq])
 refine wpAnyH_done (by kernel_rfl) ?_ _
 (try dsimp only [Act.put])
 (try simp only [cq])
 first | (have hA2 := hA.set8 (.int .i64 o.b0) (.int .i64 o.b1) (.int .i64 o.w0) (.int .i64 o.w1) (.int .i64 o.q0) (.int .i64 o.q1) (.int .i64 o.s0) (.int .i64 o.s1); obtain ⟨kl, ki, kd, kr, hBB⟩ := hH; obtain ⟨V, hV⟩ : ∃ V, Blk.wld hA2 = V := ⟨_, rfl⟩; simp only [Blk.wld] at hV; rw [hV] at kl ki kd kr hBB hA2 ⊢; clear hV hA) | (have hA2 := Blk.new w' #[.int .i64 o.b0, .int .i64 o.b1, .int .i64 o.w0, .int .i64 o.w1, .int .i64 o.q0, .int .i64 o.q1, .int .i64 o.s0, .int .i64 o.s1] 105; obtain ⟨kl, ki, kd, kr, hBB⟩ := hH; obtain ⟨V, hV⟩ : ∃ V, Blk.wld hA2 = V := ⟨_, rfl⟩; simp only [Blk.wld] at hV; rw [hV] at kl ki kd kr hBB hA2 ⊢; clear hV hA)
 obtain ⟨d0, d1, d2, d3, d4, d5⟩ := kd.c6
 obtain ⟨a0, a1, a2, a3, a4, a5, a6, a7⟩ := hA2.c8
 obtain ⟨l0, l1, l2, l3, l4, l5, l6, l7⟩ := kl.c8
 have zD := kd.lt
 have zA := hA2.lt
 have zL := kl.lt
 have zD2 := Nat.lt_succ_of_lt zD
 have zA2 := Nat.lt_succ_of_lt zA
 have zL2 := Nat.lt_succ_of_lt zL
 simp only [Nat.succ_eq_add_one] at zD2 zA2 zL2
 have hm : max d.c0 0 = d.c0 := by omega
 go_wp2_with fail
 refine (HF.out _ ?_).mono ?_
 · exact bwA (bwA hBB (Nat.le_refl _) _) (Nat.le_refl _) _
 rintro e w9 ⟨rfl, hb9⟩
 have jB := bwS (bwA (bwA hBB (Nat.le_refl _) _) (Nat.le_refl _) _) (Nat.le_refl _) hb9
 have jR := ((kr.alloc _).alloc _).call hb9
 clear zD2 zA2 zL2 hb9 kr hBB a0 a1 a2 a3 a4 a5 a6 a7 l0 l1 l2 l3 l4 l5 l6 l7 d0 d1 d2 d3 d4 d5 zD zA zL hm
 go_wp2_with fail
 refine (boxice_any _ _ _ _ _ _ _ _ _).mono ?_
 rintro e w10 ⟨rfl, hb10⟩
 replace jB := bwS jB (Nat.le_refl _) hb10
 replace jR := jR.call hb10
 clear hb10
 obtain ⟨x0, x1, x2, x3, x4, x5, x6, x7, hR⟩ := jR
 obtain ⟨a0, a1, a2, a3, a4, a5, a6, a7⟩ := hR.c8
 have r0 := hR.free 0
 have r1 := hR.free 1
 have r2 := hR.free 2
 have r3 := hR.free 3
 have r4 := hR.free 4
 have r5 := hR.free 5
 have r6 := hR.free 6
 have r7 := hR.free 7
 have HQ := Lib.hid (hR.set8 (.int .i64 y.b0) (.int .i64 y.b1) (.int .i64 y.w0) (.int .i64 y.w1) (.int .i64 y.q0) (.int .i64 y.q1) (.int .i64 y.s0) (.int .i64 y.s1)).c8
 go_wp2
 obtain ⟨z0, z1, z2, z3, z4, z5, z6, z7⟩ := HQ.out
 refine bodyPost_ret (v := .agg #[.int .i64 y.b0, .int .i64 y.b1, .int .i64 y.w0, .int .i64 y.w1, .int .i64 y.q0, .int .i64 y.q1, .int .i64 y.s0, .int .i64 y.s1]) (by simp [results, Tryz.results55, go_sem, z0, z1, z2, z3, z4, z5, z6, z7]) rfl ⟨rfl, ?_⟩
 iterate 8 refine Below.setCell ?_ (by simp; omega) _
 exact jB
 }
 exact AllReadyH.nil
 }
 refine arc (some 7) (fun K hK => ?_) ?_
 {
 (have hN := hH.2.2.2.1.lt; have hPre := hH)
 go_simp
 first | refine oA hK ?_ (fun hH hA => ?_) | refine oD hK ?_ (fun hH hA => ?_)
 · exact ⟨hH.1.alloc _, hH.2.1.alloc _, hH.2.2.1.alloc _, hH.2.2.2.1.alloc _, bwA hH.2.2.2.2 (Nat.le_refl _) _⟩
 (try simp only [World.size_alloc] at hA)
 clear hK K
 (try simp only [cq])
 refine wpAnyH_ready (rs := [2]) (by kernel_rfl) (by simp) ?_
 refine arc1 (some 12) fun K hK => ?_
 go_simp
 (refine (known_any _ _ _ _ _ _ _ _ _).mono ?_; rintro e w' ⟨rfl, hb⟩; (try replace hA := hA.call hb))
 refine hK.out _ _ ?_ (fun hH => ?_)
 · (first | (exact ⟨hH.1.call hb, hH.2.1.call hb, hH.2.2.1.call hb, hH.2.2.2.1.call hb, bwS hH.2.2.2.2 (Nat.le_refl _) hb⟩))
 clear hK K
 (try simp only [cq])
 refine wpAnyH_ready (rs := [4]) (by kernel_rfl) (by simp) ?_
 refine arc1 (some 14) fun K hK => ?_
 go_simp
 (refine (HC.out _).mono ?_; rintro e w' ⟨rfl, hb⟩; (try replace hA := hA.call hb))
 refine hK.out _ _ ?_ (fun hH => ?_)
 · (first | (exact ⟨hH.1.call hb, hH.2.1.call hb, hH.2.2.1.call hb, hH.2.2.2.1.call hb, bwS hH.2.2.2.2 (Nat.le_refl _) hb⟩))
 clear hK K
 (try simp only [cq])
 refine wpAnyH_ready (rs := [6]) (by kernel_rfl) (by simp) ?_
 refine arc1 none fun K hK => ?_
 (obtain ⟨a0, a1, a2, a3, a4, a5, a6, a7⟩ := hA.c8; have r0 := hA.free 0; have r1 := hA.free 1; have r2 := hA.free 2; have r3 := hA.free 3; have r4 := hA.free 4; have r5 := hA.free 5; have r6 := hA.free 6; have r7 := hA.free 7; (try simp at hN))
 go_simp
 refine hK.out _ _ ?_ (fun hH => ?_)
 · first | (with_reducible exact ⟨hPre.1.alloc _, hPre.2.1.alloc _, hPre.2.2.1.alloc _, hPre.2.2.2.1.alloc _, bwA hPre.2.2.2.2 (Nat.le_refl _) _⟩) | (refine ⟨?_, ?_, ?_, ?_, ?_⟩; (iterate 8 refine Blk.other ?_ _ _ (by first | (simp; done) | (simp; omega))); (exact hH.1); (iterate 8 refine Blk.other ?_ _ _ (by first | (simp; done) | (simp; omega))); (exact hH.2.1); (iterate 8 refine Blk.other ?_ _ _ (by first | (simp; done) | (simp; omega))); (exact hH.2.2.1); (iterate 8 refine Eight.other ?_ _ _ (by first | (simp; done) | (simp; omega))); (exact hH.2.2.2.1); (iterate 8 refine Below.setCell ?_ (by first | (simp; done) | (simp; omega)) _); (exact hH.2.2.2.2))
 clear hK K
 (try simp only [cq])
 refine wpAnyH_done (by kernel_rfl) ?_ _
 (try dsimp only [Act.put])
 (try simp only [cq])
 first | (have hA2 := hA.set8 (.int .i64 o.b0) (.int .i64 o.b1) (.int .i64 o.w0) (.int .i64 o.w1) (.int .i64 o.q0) (.int .i64 o.q1) (.int .i64 o.s0) (.int .i64 o.s1); obtain ⟨kl, ki, kd, kr, hBB⟩ := hH; obtain ⟨V, hV⟩ : ∃ V, Blk.wld hA2 = V := ⟨_, rfl⟩; simp only [Blk.wld] at hV; rw [hV] at kl ki kd kr hBB hA2 ⊢; clear hV hA) | (have hA2 := Blk.new w' #[.int .i64 o.b0, .int .i64 o.b1, .int .i64 o.w0, .int .i64 o.w1, .int .i64 o.q0, .int .i64 o.q1, .int .i64 o.s0, .int .i64 o.s1] 105; obtain ⟨kl, ki, kd, kr, hBB⟩ := hH; obtain ⟨V, hV⟩ : ∃ V, Blk.wld hA2 = V := ⟨_, rfl⟩; simp only [Blk.wld] at hV; rw [hV] at kl ki kd kr hBB hA2 ⊢; clear hV hA)
 obtain ⟨d0, d1, d2, d3, d4, d5⟩ := kd.c6
 obtain ⟨a0, a1, a2, a3, a4, a5, a6, a7⟩ := hA2.c8
 obtain ⟨l0, l1, l2, l3, l4, l5, l6, l7⟩ := kl.c8
 have zD := kd.lt
 have zA := hA2.lt
 have zL := kl.lt
 have zD2 := Nat.lt_succ_of_lt zD
 have zA2 := Nat.lt_succ_of_lt zA
 have zL2 := Nat.lt_succ_of_lt zL
 simp only [Nat.succ_eq_add_one] at zD2 zA2 zL2
 have hm : max d.c0 0 = d.c0 := by omega
 go_wp2_with fail
 refine (HF.out _ ?_).mono ?_
 · exact bwA (bwA hBB (Nat.le_refl _) _) (Nat.le_refl _) _
 rintro e w9 ⟨rfl, hb9⟩
 have jB := bwS (bwA (bwA hBB (Nat.le_refl _) _) (Nat.le_refl _) _) (Nat.le_refl _) hb9
 have jR := ((kr.alloc _).alloc _).call hb9
 clear zD2 zA2 zL2 hb9 kr hBB a0 a1 a2 a3 a4 a5 a6 a7 l0 l1 l2 l3 l4 l5 l6 l7 d0 d1 d2 d3 d4 d5 zD zA zL hm
 go_wp2_with fail
 refine (boxice_any _ _ _ _ _ _ _ _ _).mono ?_
 rintro e w10 ⟨rfl, hb10⟩
 replace jB := bwS jB (Nat.le_refl _) hb10
 replace jR := jR.call hb10
 clear hb10
 obtain ⟨x0, x1, x2, x3, x4, x5, x6, x7, hR⟩ := jR
 obtain ⟨a0, a1, a2, a3, a4, a5, a6, a7⟩ := hR.c8
 have r0 := hR.free 0
 have r1 := hR.free 1
 have r2 := hR.free 2
 have r3 := hR.free 3
 have r4 := hR.free 4
 have r5 := hR.free 5
 have r6 := hR.free 6
 have r7 := hR.free 7
 have HQ := Lib.hid (hR.set8 (.int .i64 y.b0) (.int .i64 y.b1) (.int .i64 y.w0) (.int .i64 y.w1) (.int .i64 y.q0) (.int .i64 y.q1) (.int .i64 y.s0) (.int .i64 y.s1)).c8
 go_wp2
 obtain ⟨z0, z1, z2, z3, z4, z5, z6, z7⟩ := HQ.out
 refine bodyPost_ret (v := .agg #[.int .i64 y.b0, .int .i64 y.b1, .int .i64 y.w0, .int .i64 y.w1, .int .i64 y.q0, .int .i64 y.q1, .int .i64 y.s0, .int .i64 y.s1]) (by simp [results, Tryz.results55, go_sem, z0, z1, z2, z3, z4, z5, z6, z7]) rfl ⟨rfl, ?_⟩
 iterate 8 refine Below.setCell ?_ (by simp; omega) _
 exact jB
 }
 exact AllReadyH.nil )
end Go.Proofs.YtdbiijldincoiaaGreat

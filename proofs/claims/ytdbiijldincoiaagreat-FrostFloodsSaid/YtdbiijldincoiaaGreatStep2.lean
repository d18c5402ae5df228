/-
  frost.step on days with warmth, and on any day.
-/
import Derived.Test.YtdbiijldincoiaaGreatTail
import Derived.Test.YtdbiijldincoiaaGreatMelt
import Derived.Test.YtdbiijldincoiaaGreatShare
set_option linter.unusedVariables false
set_option linter.unusedSimpArgs false
namespace Go.Proofs.YtdbiijldincoiaaGreat
open Go.RowKit

def warmI (l : Lw) (x : Ic) (f t : Int) : Ic := meltI x (gotL f l.m0) (gotH t l.m1)
def stepI (l : Lw) (x : Ic) (d : Dy) : Ic :=
  if 0 ≤ d.c0 then coldI l (openI l x d) d.c0 d.c1 else if d.c1 < 0 then warmI l (openI l x d) (-d.c1) (-d.c0) else joinI (coldI l (openI l x d) 0 d.c1) (warmI l (openI l x d) 1 (-d.c0))
theorem Eight.other8 {w : World} {b : Nat} {t : TypeId} (h : Eight w b t) {c : Nat} (hp : b ≠ c) (y0 y1 y2 y3 y4 y5 y6 y7 : Value) :
    Eight ((((((((w.setCell ⟨c, 0, none⟩ y0).setCell ⟨c, 1, none⟩ y1).setCell ⟨c, 2, none⟩ y2).setCell ⟨c, 3, none⟩ y3).setCell ⟨c, 4, none⟩ y4).setCell ⟨c, 5, none⟩ y5).setCell ⟨c, 6, none⟩ y6).setCell ⟨c, 7, none⟩ y7) b t :=
  (((((((h.other _ _ hp).other _ _ hp).other _ _ hp).other _ _ hp).other _ _ hp).other _ _ hp).other _ _ hp).other _ _ hp
theorem below_set8 {B : Nat} {w v : World} (h : Below B w v) {c : Nat} (hp : B ≤ c) (y0 y1 y2 y3 y4 y5 y6 y7 : Value) :
    Below B w ((((((((v.setCell ⟨c, 0, none⟩ y0).setCell ⟨c, 1, none⟩ y1).setCell ⟨c, 2, none⟩ y2).setCell ⟨c, 3, none⟩ y3).setCell ⟨c, 4, none⟩ y4).setCell ⟨c, 5, none⟩ y5).setCell ⟨c, 6, none⟩ y6).setCell ⟨c, 7, none⟩ y7) :=
  (((((((h.setCell (p := ⟨c, 0, none⟩) hp _).setCell (p := ⟨c, 1, none⟩) hp _).setCell (p := ⟨c, 2, none⟩) hp _).setCell (p := ⟨c, 3, none⟩) hp _).setCell (p := ⟨c, 4, none⟩) hp _).setCell (p := ⟨c, 5, none⟩) hp _).setCell (p := ⟨c, 6, none⟩) hp _).setCell (p := ⟨c, 7, none⟩) hp _

set_option maxRecDepth 100000 in
set_option maxHeartbeats 8000000 in
theorem step_warm (l : Lw) (x : Ic) (d : Dy) (va : Option Addr) (cap : Nat) (w : World) (hv : CovAt w (.slice va l.n cap) l.n l.D l.P0 l.P1) (hl : l.Ok) (hx : x.In 400000000) (hd : d.Ok) (hc : d.c1 < 0) (y : Ic) (hy : y = warmI l (openI l x d) (-d.c1) (-d.c0)) :
    Calls Tryz.prog 55 #[.agg #[.int .i64 l.gr, .int .i64 l.la, (.slice va l.n cap), .int .i64 l.m0, .int .i64 l.m1, .int .i64 l.so, .int .i64 l.h0, .int .i64 l.h1], .agg #[.int .i64 x.b0, .int .i64 x.b1, .int .i64 x.w0, .int .i64 x.w1, .int .i64 x.q0, .int .i64 x.q1, .int .i64 x.s0, .int .i64 x.s1], .agg #[.int .i64 d.c0, .int .i64 d.c1, .int .i64 d.f0, .int .i64 d.f1, .int .i64 d.wa, .bool d.cl]] w
      fun e w' => e = .returned (.agg #[.int .i64 y.b0, .int .i64 y.b1, .int .i64 y.w0, .int .i64 y.w1, .int .i64 y.q0, .int .i64 y.q1, .int .i64 y.s0, .int .i64 y.s1]) ∧ Below w.heap.size w w' := by
  obtain ⟨o, ho⟩ : ∃ o, openI l x d = o := ⟨_, rfl⟩
  have hoi := open_in hl hx hd
  rw [ho] at hoi hy
  have hC : ∀ W, Calls Tryz.prog 75 #[.agg #[.int .i64 l.gr, .int .i64 l.la, (.slice va l.n cap), .int .i64 l.m0, .int .i64 l.m1, .int .i64 l.so, .int .i64 l.h0, .int .i64 l.h1], .agg #[.int .i64 x.b0, .int .i64 x.b1, .int .i64 x.w0, .int .i64 x.w1, .int .i64 x.q0, .int .i64 x.q1, .int .i64 x.s0, .int .i64 x.s1], .agg #[.int .i64 d.c0, .int .i64 d.c1, .int .i64 d.f0, .int .i64 d.f1, .int .i64 d.wa, .bool d.cl]] W
      fun e w' => e = .returned (.agg #[.int .i64 o.b0, .int .i64 o.b1, .int .i64 o.w0, .int .i64 o.w1, .int .i64 o.q0, .int .i64 o.q1, .int .i64 o.s0, .int .i64 o.s1]) ∧ Below W.heap.size W w' := fun W => by
    rw [← ho]
    exact fcover_any _ _ _ _ _ _ _ _ _ _ _ _ _ _ _ _ _ _ _ _ _ _ W ⟨_, _, _, rfl⟩ hl.o0 hl.o1 hx.q0 (by have := hx.q0'; omega) hx.q1 (by have := hx.q1'; omega) hx.s0 (by have := hx.s0'; omega) hx.s1 (by have := hx.s1'; omega) hd.f0 (by have := hd.f1; have := hd.f2; omega) (by have := hd.f0; have := hd.f1; omega) hd.f2 hd.w1
  have d0 := hd.c0
  have d1 := hd.c1
  have d2 := hd.c2
  have l0 := hl.m0
  have l1 := hl.m1
  have l2 := hl.m2
  have hM : ∀ W, Calls Tryz.prog 76 #[.agg #[.int .i64 l.gr, .int .i64 l.la, (.slice va l.n cap), .int .i64 l.m0, .int .i64 l.m1, .int .i64 l.so, .int .i64 l.h0, .int .i64 l.h1], .agg #[.int .i64 o.b0, .int .i64 o.b1, .int .i64 o.w0, .int .i64 o.w1, .int .i64 o.q0, .int .i64 o.q1, .int .i64 o.s0, .int .i64 o.s1], .agg #[.int .i64 (max (-d.c1) 1), .int .i64 (-d.c0)]] W
      fun e w' => e = .returned (.agg #[.int .i64 y.b0, .int .i64 y.b1, .int .i64 y.w0, .int .i64 y.w1, .int .i64 y.q0, .int .i64 y.q1, .int .i64 y.s0, .int .i64 y.s1]) ∧ Below W.heap.size W w' := fun W => by
    refine melt_any _ _ _ _ _ _ _ _ o _ _ W ⟨_, _, _, rfl⟩ hoi l0 (by omega) (by omega) l2 (by omega) (by omega) (by omega) (by omega) y ?_
    rw [hy, show max (-d.c1) 1 = -d.c1 by omega]
    rfl
  have n0 : IntKind.i64.wrap (-d.c0) = -d.c0 := IntWalk.i64_in _ (by omega)
  have n1 : IntKind.i64.wrap (-d.c1) = -d.c1 := IntWalk.i64_in _ (by omega)
  have HC := Lib.hid hC
  have HM := Lib.hid hM
  clear hC hM hv hl hx hd ho hoi hy l0 l1 l2
  have T0 : Eight ((((w.alloc (.cells #[.int .i64 l.gr, .int .i64 l.la, .slice va l.n cap, .int .i64 l.m0, .int .i64 l.m1, .int .i64 l.so, .int .i64 l.h0, .int .i64 l.h1] 26)).alloc (.cells #[.int .i64 x.b0, .int .i64 x.b1, .int .i64 x.w0, .int .i64 x.w1, .int .i64 x.q0, .int .i64 x.q1, .int .i64 x.s0, .int .i64 x.s1] 28)).alloc (.cells #[.int .i64 d.c0, .int .i64 d.c1, .int .i64 d.f0, .int .i64 d.f1, .int .i64 d.wa, .bool d.cl] 58)).alloc (.cells #[.int .i64 0, .int .i64 0, .int .i64 0, .int .i64 0, .int .i64 0, .int .i64 0, .int .i64 0, .int .i64 0] 28)) (w.heap.size + 1 + 1 + 1) 28 := ⟨_, _, _, _, _, _, _, _, Blk.new3 w (.cells #[.int .i64 l.gr, .int .i64 l.la, .slice va l.n cap, .int .i64 l.m0, .int .i64 l.m1, .int .i64 l.so, .int .i64 l.h0, .int .i64 l.h1] 26) (.cells #[.int .i64 x.b0, .int .i64 x.b1, .int .i64 x.w0, .int .i64 x.w1, .int .i64 x.q0, .int .i64 x.q1, .int .i64 x.s0, .int .i64 x.s1] 28) (.cells #[.int .i64 d.c0, .int .i64 d.c1, .int .i64 d.f0, .int .i64 d.f1, .int .i64 d.wa, .bool d.cl] 58) #[.int .i64 0, .int .i64 0, .int .i64 0, .int .i64 0, .int .i64 0, .int .i64 0, .int .i64 0, .int .i64 0] 28⟩
  have T1 : Blk ((((w.alloc (.cells #[.int .i64 l.gr, .int .i64 l.la, .slice va l.n cap, .int .i64 l.m0, .int .i64 l.m1, .int .i64 l.so, .int .i64 l.h0, .int .i64 l.h1] 26)).alloc (.cells #[.int .i64 x.b0, .int .i64 x.b1, .int .i64 x.w0, .int .i64 x.w1, .int .i64 x.q0, .int .i64 x.q1, .int .i64 x.s0, .int .i64 x.s1] 28)).alloc (.cells #[.int .i64 d.c0, .int .i64 d.c1, .int .i64 d.f0, .int .i64 d.f1, .int .i64 d.wa, .bool d.cl] 58)).alloc (.cells #[.int .i64 0, .int .i64 0, .int .i64 0, .int .i64 0, .int .i64 0, .int .i64 0, .int .i64 0, .int .i64 0] 28)) w.heap.size #[.int .i64 l.gr, .int .i64 l.la, .slice va l.n cap, .int .i64 l.m0, .int .i64 l.m1, .int .i64 l.so, .int .i64 l.h0, .int .i64 l.h1] 26 := (((Blk.new w _ _).alloc _).alloc _).alloc _
  have T2 : Blk ((((w.alloc (.cells #[.int .i64 l.gr, .int .i64 l.la, .slice va l.n cap, .int .i64 l.m0, .int .i64 l.m1, .int .i64 l.so, .int .i64 l.h0, .int .i64 l.h1] 26)).alloc (.cells #[.int .i64 x.b0, .int .i64 x.b1, .int .i64 x.w0, .int .i64 x.w1, .int .i64 x.q0, .int .i64 x.q1, .int .i64 x.s0, .int .i64 x.s1] 28)).alloc (.cells #[.int .i64 d.c0, .int .i64 d.c1, .int .i64 d.f0, .int .i64 d.f1, .int .i64 d.wa, .bool d.cl] 58)).alloc (.cells #[.int .i64 0, .int .i64 0, .int .i64 0, .int .i64 0, .int .i64 0, .int .i64 0, .int .i64 0, .int .i64 0] 28)) (w.heap.size + 1) #[.int .i64 x.b0, .int .i64 x.b1, .int .i64 x.w0, .int .i64 x.w1, .int .i64 x.q0, .int .i64 x.q1, .int .i64 x.s0, .int .i64 x.s1] 28 := ((Blk.new1 w _ _ _).alloc _).alloc _
  have T3 : Blk ((((w.alloc (.cells #[.int .i64 l.gr, .int .i64 l.la, .slice va l.n cap, .int .i64 l.m0, .int .i64 l.m1, .int .i64 l.so, .int .i64 l.h0, .int .i64 l.h1] 26)).alloc (.cells #[.int .i64 x.b0, .int .i64 x.b1, .int .i64 x.w0, .int .i64 x.w1, .int .i64 x.q0, .int .i64 x.q1, .int .i64 x.s0, .int .i64 x.s1] 28)).alloc (.cells #[.int .i64 d.c0, .int .i64 d.c1, .int .i64 d.f0, .int .i64 d.f1, .int .i64 d.wa, .bool d.cl] 58)).alloc (.cells #[.int .i64 0, .int .i64 0, .int .i64 0, .int .i64 0, .int .i64 0, .int .i64 0, .int .i64 0, .int .i64 0] 28)) (w.heap.size + 1 + 1) #[.int .i64 d.c0, .int .i64 d.c1, .int .i64 d.f0, .int .i64 d.f1, .int .i64 d.wa, .bool d.cl] 58 := (Blk.new2 w _ _ _ _).alloc _
  have T4 : Below w.heap.size w ((((w.alloc (.cells #[.int .i64 l.gr, .int .i64 l.la, .slice va l.n cap, .int .i64 l.m0, .int .i64 l.m1, .int .i64 l.so, .int .i64 l.h0, .int .i64 l.h1] 26)).alloc (.cells #[.int .i64 x.b0, .int .i64 x.b1, .int .i64 x.w0, .int .i64 x.w1, .int .i64 x.q0, .int .i64 x.q1, .int .i64 x.s0, .int .i64 x.s1] 28)).alloc (.cells #[.int .i64 d.c0, .int .i64 d.c1, .int .i64 d.f0, .int .i64 d.f1, .int .i64 d.wa, .bool d.cl] 58)).alloc (.cells #[.int .i64 0, .int .i64 0, .int .i64 0, .int .i64 0, .int .i64 0, .int .i64 0, .int .i64 0, .int .i64 0] 28)) := by (repeat (first | exact Below.refl _ _ | assumption | refine Below.drew ?_ | refine Below.drewN ?_ _ | refine blT ?_ | refine blU ?_))
  go_enter Tryz.func55, Tryz.ntmps55
  go_upto_region 1 with fail
  generalize ((((w.alloc (.cells #[.int .i64 l.gr, .int .i64 l.la, .slice va l.n cap, .int .i64 l.m0, .int .i64 l.m1, .int .i64 l.so, .int .i64 l.h0, .int .i64 l.h1] 26)).alloc (.cells #[.int .i64 x.b0, .int .i64 x.b1, .int .i64 x.w0, .int .i64 x.w1, .int .i64 x.q0, .int .i64 x.q1, .int .i64 x.s0, .int .i64 x.s1] 28)).alloc (.cells #[.int .i64 d.c0, .int .i64 d.c1, .int .i64 d.f0, .int .i64 d.f1, .int .i64 d.wa, .bool d.cl] 58)).alloc (.cells #[.int .i64 0, .int .i64 0, .int .i64 0, .int .i64 0, .int .i64 0, .int .i64 0, .int .i64 0, .int .i64 0] 28)) = V at T0 T1 T2 T3 T4 ⊢
  go_cut [7] (fun s7 wx => ∃ bA : Nat, s7 = .pointer (some ⟨bA, 0, none⟩) ∧ Blk wx bA #[.int .i64 o.b0, .int .i64 o.b1, .int .i64 o.w0, .int .i64 o.w1, .int .i64 o.q0, .int .i64 o.q1, .int .i64 o.s0, .int .i64 o.s1] 105 ∧ Blk wx w.heap.size #[.int .i64 l.gr, .int .i64 l.la, .slice va l.n cap, .int .i64 l.m0, .int .i64 l.m1, .int .i64 l.so, .int .i64 l.h0, .int .i64 l.h1] 26 ∧ Blk wx (w.heap.size + 1 + 1) #[.int .i64 d.c0, .int .i64 d.c1, .int .i64 d.f0, .int .i64 d.f1, .int .i64 d.wa, .bool d.cl] 58 ∧ Eight wx (w.heap.size + 1 + 1 + 1) 28 ∧ w.heap.size + 1 + 1 + 1 < bA ∧ Below w.heap.size w wx)
  case first =>
    (
 let S9 : World → Prop := (fun w' => Blk w' w.heap.size #[.int .i64 l.gr, .int .i64 l.la, .slice va l.n cap, .int .i64 l.m0, .int .i64 l.m1, .int .i64 l.so, .int .i64 l.h0, .int .i64 l.h1] 26 ∧ Blk w' (w.heap.size + 1) #[.int .i64 x.b0, .int .i64 x.b1, .int .i64 x.w0, .int .i64 x.w1, .int .i64 x.q0, .int .i64 x.q1, .int .i64 x.s0, .int .i64 x.s1] 28 ∧ Blk w' (w.heap.size + 1 + 1) #[.int .i64 d.c0, .int .i64 d.c1, .int .i64 d.f0, .int .i64 d.f1, .int .i64 d.wa, .bool d.cl] 58 ∧ Eight w' (w.heap.size + 1 + 1 + 1) 28 ∧ Below w.heap.size w w')
 refine wp_region_held_drew (S := S9) (by kernel_rfl) ?_ (fun hH => ?_)
 · (try dsimp only); (exact ⟨T1.drew, T2.drew, T3.drew, T0, T4.drew⟩)
 apply share0 (fun (bA : Nat) (W : World) => S9 W ∧ Blk W bA #[.int .i64 0, .int .i64 0, .int .i64 0, .int .i64 0, .int .i64 0, .int .i64 0, .int .i64 0, .int .i64 0] 105 ∧ (w.heap.size + 1 + 1 + 1 < bA))
 {
 intro X2
 apply share0 (fun (bA : Nat) (W : World) => S9 W ∧ Blk W bA #[.int .i64 0, .int .i64 0, .int .i64 0, .int .i64 0, .int .i64 0, .int .i64 0, .int .i64 0, .int .i64 0] 105 ∧ (w.heap.size + 1 + 1 + 1 < bA))
 {
 intro X1
 apply share0 (fun (bA : Nat) (W : World) => S9 W ∧ Blk W bA #[.int .i64 0, .int .i64 0, .int .i64 0, .int .i64 0, .int .i64 0, .int .i64 0, .int .i64 0, .int .i64 0] 105 ∧ (w.heap.size + 1 + 1 + 1 < bA))
 {
 intro X0
 refine tkY 0 (some 10) ?_ ?_ ?_
 rotate_left
 · intro w hS0; (try dsimp only at hS0); obtain ⟨kl, ki, kd, _, _⟩ := hS0; obtain ⟨l0, l1, l2, l3, l4, l5, l6, l7⟩ := kl.c8; obtain ⟨i0, i1, i2, i3, i4, i5, i6, i7⟩ := ki.c8; obtain ⟨d0, d1, d2, d3, d4, d5⟩ := kd.c6;go_simp; (try with_reducible rfl)
 (try simp only [cq])
 refine tkY 1 (some 11) ?_ ?_ ?_
 rotate_left
 · intro w hS0; (try dsimp only at hS0); obtain ⟨kl, ki, kd, _, _⟩ := hS0; obtain ⟨l0, l1, l2, l3, l4, l5, l6, l7⟩ := kl.c8; obtain ⟨i0, i1, i2, i3, i4, i5, i6, i7⟩ := ki.c8; obtain ⟨d0, d1, d2, d3, d4, d5⟩ := kd.c6;go_simp; (try with_reducible rfl)
 (try simp only [cq])
 refine tkY 3 (some 13) ?_ ?_ ?_
 rotate_left
 · intro w hS0; (try dsimp only at hS0); obtain ⟨kl, ki, kd, _, _⟩ := hS0; obtain ⟨l0, l1, l2, l3, l4, l5, l6, l7⟩ := kl.c8; obtain ⟨i0, i1, i2, i3, i4, i5, i6, i7⟩ := ki.c8; obtain ⟨d0, d1, d2, d3, d4, d5⟩ := kd.c6;go_simp; (try with_reducible rfl)
 (try simp only [cq])
 refine wpAnyH_ready (rs := [2, 5]) (by kernel_rfl) (by simp) ?_
 refine arc (some 12) (fun K hK => ?_) ?_
 {
 go_simp
 (refine (known_any _ _ _ _ _ _ _ _ _).mono ?_; rintro e w' ⟨rfl, hb⟩; (try replace hA := hA.call hb))
 refine hK.out _ _ ?_ ?_
 · (exact ⟨hH.1.call hb, hH.2.1.call hb, hH.2.2.1.call hb, hH.2.2.2.1.call hb, bwS hH.2.2.2.2 (Nat.le_refl _) hb⟩)
 (try clear hH); (try clear hb)
 intro hH
 clear hK K
 (try simp only [cq])
 refine wpAnyH_ready (rs := [4, 5]) (by kernel_rfl) (by simp) ?_
 refine arc (some 14) (fun K hK => ?_) ?_
 {
 go_simp
 (refine (HC.out _).mono ?_; rintro e w' ⟨rfl, hb⟩; (try replace hA := hA.call hb))
 refine hK.out _ _ ?_ ?_
 · (exact ⟨hH.1.call hb, hH.2.1.call hb, hH.2.2.1.call hb, hH.2.2.2.1.call hb, bwS hH.2.2.2.2 (Nat.le_refl _) hb⟩)
 (try clear hH); (try clear hb)
 intro hH
 clear hK K
 (try simp only [cq])
 refine wpAnyH_ready (rs := [5]) (by kernel_rfl) (by simp) ?_
 refine arc1 (some 7) fun K hK => ?_
 (have hN1 := hH.2.2.2.1.lt; (try simp only [World.drew] at hN1))
 go_simp
 first | refine oA hK ?_ (fun hH hA => ?_) | refine oD hK ?_ (fun hH hA => ?_)
 · exact ⟨hH.1.alloc _, hH.2.1.alloc _, hH.2.2.1.alloc _, hH.2.2.2.1.alloc _, bwA hH.2.2.2.2 (Nat.le_refl _) _⟩
 clear hK K
 (try simp only [cq])
 obtain ⟨bA, hbA⟩ : ∃ b, Blk.num hA = b := ⟨_, rfl⟩
 obtain ⟨W, hW⟩ : ∃ V, Blk.wld hA = V := ⟨_, rfl⟩
 simp only [Blk.num] at hbA
 simp only [Blk.wld] at hW
 rw [hW] at hH hA ⊢
 rw [hbA] at hA ⊢
 replace hN1 : w.heap.size + 1 + 1 + 1 < bA := (by rw [← hbA]; exact hN1)
 clear hW hbA
 exact X2  bA W ⟨hH, hA, hN1⟩
 }
 refine arc (some 7) (fun K hK => ?_) ?_
 {
 (have hN1 := hH.2.2.2.1.lt; (try simp only [World.drew] at hN1))
 go_simp
 first | refine oA hK ?_ (fun hH hA => ?_) | refine oD hK ?_ (fun hH hA => ?_)
 · exact ⟨hH.1.alloc _, hH.2.1.alloc _, hH.2.2.1.alloc _, hH.2.2.2.1.alloc _, bwA hH.2.2.2.2 (Nat.le_refl _) _⟩
 clear hK K
 (try simp only [cq])
 obtain ⟨bA, hbA⟩ : ∃ b, Blk.num hA = b := ⟨_, rfl⟩
 obtain ⟨W, hW⟩ : ∃ V, Blk.wld hA = V := ⟨_, rfl⟩
 simp only [Blk.num] at hbA
 simp only [Blk.wld] at hW
 rw [hW] at hH hA ⊢
 rw [hbA] at hA ⊢
 replace hN1 : w.heap.size + 1 + 1 + 1 < bA := (by rw [← hbA]; exact hN1)
 clear hW hbA
 exact X1  bA W ⟨hH, hA, hN1⟩
 }
 exact AllReadyH.nil
 }
 refine arc (some 7) (fun K hK => ?_) ?_
 {
 (have hN1 := hH.2.2.2.1.lt; (try simp only [World.drew] at hN1))
 go_simp
 first | refine oA hK ?_ (fun hH hA => ?_) | refine oD hK ?_ (fun hH hA => ?_)
 · exact ⟨hH.1.alloc _, hH.2.1.alloc _, hH.2.2.1.alloc _, hH.2.2.2.1.alloc _, bwA hH.2.2.2.2 (Nat.le_refl _) _⟩
 clear hK K
 (try simp only [cq])
 obtain ⟨bA, hbA⟩ : ∃ b, Blk.num hA = b := ⟨_, rfl⟩
 obtain ⟨W, hW⟩ : ∃ V, Blk.wld hA = V := ⟨_, rfl⟩
 simp only [Blk.num] at hbA
 simp only [Blk.wld] at hW
 rw [hW] at hH hA ⊢
 rw [hbA] at hA ⊢
 replace hN1 : w.heap.size + 1 + 1 + 1 < bA := (by rw [← hbA]; exact hN1)
 clear hW hbA
 exact X0  bA W ⟨hH, hA, hN1⟩
 }
 exact AllReadyH.nil
 }
 {
 intro bA W hall
 obtain ⟨hH, hA, hN1⟩ := hall
 (try dsimp only at hH)
 (try clear X2)
 refine wpAnyH_ready (rs := [2]) (by kernel_rfl) (by simp) ?_
 refine arc1 (some 12) fun K hK => ?_
 go_simp
 (refine (known_any _ _ _ _ _ _ _ _ _).mono ?_; rintro e w' ⟨rfl, hb⟩; (try replace hA := hA.call hb))
 refine hK.out _ _ ?_ ?_
 · (exact ⟨hH.1.call hb, hH.2.1.call hb, hH.2.2.1.call hb, hH.2.2.2.1.call hb, bwS hH.2.2.2.2 (Nat.le_refl _) hb⟩)
 (try clear hH); (try clear hb)
 intro hH
 clear hK K
 (try simp only [cq])
 exact X1  bA w' ⟨hH, hA, hN1⟩
 }
 }
 {
 intro bA W hall
 obtain ⟨hH, hA, hN1⟩ := hall
 (try dsimp only at hH)
 refine wpAnyH_ready (rs := [4]) (by kernel_rfl) (by simp) ?_
 refine arc1 (some 14) fun K hK => ?_
 go_simp
 (refine (HC.out _).mono ?_; rintro e w' ⟨rfl, hb⟩; (try replace hA := hA.call hb))
 refine hK.out _ _ ?_ ?_
 · (exact ⟨hH.1.call hb, hH.2.1.call hb, hH.2.2.1.call hb, hH.2.2.2.1.call hb, bwS hH.2.2.2.2 (Nat.le_refl _) hb⟩)
 (try clear hH); (try clear hb)
 intro hH
 clear hK K
 (try simp only [cq])
 exact X2  bA w' ⟨hH, hA, hN1⟩
 }
 }
 {
 intro bA W hall
 obtain ⟨hH, hA, hN1⟩ := hall
 (try dsimp only at hH)
 refine wpAnyH_ready (rs := [6]) (by kernel_rfl) (by simp) ?_
 refine arc1 none fun K hK => ?_
 obtain ⟨h1, h2, h3, h4, hD⟩ := hH
 obtain ⟨r0, r1, r2, r3, r4, r5, r6, r7⟩ := hA.c8
 have fr0 := hA.free 0
 have fr1 := hA.free 1
 have fr2 := hA.free 2
 have fr3 := hA.free 3
 have fr4 := hA.free 4
 have fr5 := hA.free 5
 have fr6 := hA.free 6
 have fr7 := hA.free 7
 have zR := hA.lt
 have HS := Lib.hid (hA.set8 (.int .i64 o.b0) (.int .i64 o.b1) (.int .i64 o.w0) (.int .i64 o.w1) (.int .i64 o.q0) (.int .i64 o.q1) (.int .i64 o.s0) (.int .i64 o.s1))
 go_simp
 refine hK.out _ _ ?_ ?_
 · with_reducible exact ⟨h1.other8 (by omega) _ _ _ _ _ _ _ _, h2.other8 (by omega) _ _ _ _ _ _ _ _, h3.other8 (by omega) _ _ _ _ _ _ _ _, h4.other8 (by omega) _ _ _ _ _ _ _ _, below_set8 hD (by omega) _ _ _ _ _ _ _ _⟩
 (try clear hH); (try clear hb)
 intro hH
 clear hK K
 (try simp only [cq])
 refine wpAnyH_done (by kernel_rfl) ?_ _
 (try dsimp only [Act.put])
 (try simp only [cq])
 clear hA r0 r1 r2 r3 r4 r5 r6 r7 fr0 fr1 fr2 fr3 fr4 fr5 fr6 fr7 zR hD h1 h2 h3 h4
 go_wp2_with fail
 go_meet
 exact ⟨_, rfl, HS.out, hH.1, hH.2.2.1, hH.2.2.2.1, hN1, hH.2.2.2.2⟩
 } )
  case rest =>
    obtain ⟨bA, rfl, kA, kl, kd, kr, zr, jB⟩ := hcut
    clear T0 T1 T2 T3 T4 HC
    obtain ⟨u0, u1, u2, u3, u4, u5⟩ := kd.c6
    obtain ⟨a0, a1, a2, a3, a4, a5, a6, a7⟩ := kA.c8
    obtain ⟨l0, l1, l2, l3, l4, l5, l6, l7⟩ := kl.c8
    have zD := kd.lt
    have zA := kA.lt
    have zL := kl.lt
    have zD2 := Nat.lt_succ_of_lt zD
    have zA2 := Nat.lt_succ_of_lt zA
    have zL2 := Nat.lt_succ_of_lt zL
    simp only [Nat.succ_eq_add_one] at zD2 zA2 zL2
    go_wp2_with fail
    refine (HM.out _).mono ?_
    rintro e w9 ⟨rfl, hb⟩
    replace jB := bwS (bwA (bwA jB (Nat.le_refl _) _) (Nat.le_refl _) _) (Nat.le_refl _) hb
    have jR := ((kr.alloc _).alloc _).call hb
    clear zD2 zA2 zL2 hb kr a0 a1 a2 a3 a4 a5 a6 a7 l0 l1 l2 l3 l4 l5 l6 l7 u0 u1 u2 u3 u4 u5 zD zA zL kA kl kd HM
    go_wp2_with fail
    refine (boxice_any _ _ _ _ _ _ _ _ _).mono ?_
    rintro e w10 ⟨rfl, hb⟩
    replace jB := bwS jB (Nat.le_refl _) hb
    replace jR := jR.call hb
    clear hb
    obtain ⟨x0, x1, x2, x3, x4, x5, x6, x7, hR⟩ := jR
    obtain ⟨a0, a1, a2, a3, a4, a5, a6, a7⟩ := hR.c8
    have r0 := hR.free 0
    have r1 := hR.free 1
    have r2 := hR.free 2
    have r3 := hR.free 3
    have r4 := hR.free 4
    have r5 := hR.free 5
    have r6 := hR.free 6
    have r7 := hR.free 7
    have HQ := Lib.hid (hR.set8 (.int .i64 y.b0) (.int .i64 y.b1) (.int .i64 y.w0) (.int .i64 y.w1) (.int .i64 y.q0) (.int .i64 y.q1) (.int .i64 y.s0) (.int .i64 y.s1)).c8
    go_wp2
    obtain ⟨z0, z1, z2, z3, z4, z5, z6, z7⟩ := HQ.out
    refine bodyPost_ret (v := .agg #[.int .i64 y.b0, .int .i64 y.b1, .int .i64 y.w0, .int .i64 y.w1, .int .i64 y.q0, .int .i64 y.q1, .int .i64 y.s0, .int .i64 y.s1]) (by simp [results, Tryz.results55, go_sem, z0, z1, z2, z3, z4, z5, z6, z7]) rfl ⟨rfl, ?_⟩
    iterate 8 refine Below.setCell ?_ (by simp; omega) _
    exact jB

set_option maxRecDepth 100000 in
set_option maxHeartbeats 8000000 in
theorem step_both (l : Lw) (x : Ic) (d : Dy) (va : Option Addr) (cap : Nat) (w : World) (hv : CovAt w (.slice va l.n cap) l.n l.D l.P0 l.P1) (hl : l.Ok) (hx : x.In 400000000) (hd : d.Ok) (hc0 : d.c0 < 0) (hc : 0 ≤ d.c1) (y : Ic) (hy : y = joinI (coldI l (openI l x d) 0 d.c1) (warmI l (openI l x d) 1 (-d.c0))) :
    Calls Tryz.prog 55 #[.agg #[.int .i64 l.gr, .int .i64 l.la, (.slice va l.n cap), .int .i64 l.m0, .int .i64 l.m1, .int .i64 l.so, .int .i64 l.h0, .int .i64 l.h1], .agg #[.int .i64 x.b0, .int .i64 x.b1, .int .i64 x.w0, .int .i64 x.w1, .int .i64 x.q0, .int .i64 x.q1, .int .i64 x.s0, .int .i64 x.s1], .agg #[.int .i64 d.c0, .int .i64 d.c1, .int .i64 d.f0, .int .i64 d.f1, .int .i64 d.wa, .bool d.cl]] w
      fun e w' => e = .returned (.agg #[.int .i64 y.b0, .int .i64 y.b1, .int .i64 y.w0, .int .i64 y.w1, .int .i64 y.q0, .int .i64 y.q1, .int .i64 y.s0, .int .i64 y.s1]) ∧ Below w.heap.size w w' := by
  obtain ⟨o, ho⟩ : ∃ o, openI l x d = o := ⟨_, rfl⟩
  have hoi := open_in hl hx hd
  rw [ho] at hoi hy
  have hC : ∀ W, Calls Tryz.prog 75 #[.agg #[.int .i64 l.gr, .int .i64 l.la, (.slice va l.n cap), .int .i64 l.m0, .int .i64 l.m1, .int .i64 l.so, .int .i64 l.h0, .int .i64 l.h1], .agg #[.int .i64 x.b0, .int .i64 x.b1, .int .i64 x.w0, .int .i64 x.w1, .int .i64 x.q0, .int .i64 x.q1, .int .i64 x.s0, .int .i64 x.s1], .agg #[.int .i64 d.c0, .int .i64 d.c1, .int .i64 d.f0, .int .i64 d.f1, .int .i64 d.wa, .bool d.cl]] W
      fun e w' => e = .returned (.agg #[.int .i64 o.b0, .int .i64 o.b1, .int .i64 o.w0, .int .i64 o.w1, .int .i64 o.q0, .int .i64 o.q1, .int .i64 o.s0, .int .i64 o.s1]) ∧ Below W.heap.size W w' := fun W => by
    rw [← ho]
    exact fcover_any _ _ _ _ _ _ _ _ _ _ _ _ _ _ _ _ _ _ _ _ _ _ W ⟨_, _, _, rfl⟩ hl.o0 hl.o1 hx.q0 (by have := hx.q0'; omega) hx.q1 (by have := hx.q1'; omega) hx.s0 (by have := hx.s0'; omega) hx.s1 (by have := hx.s1'; omega) hd.f0 (by have := hd.f1; have := hd.f2; omega) (by have := hd.f0; have := hd.f1; omega) hd.f2 hd.w1
  have d0 := hd.c0
  have d1 := hd.c1
  have d2 := hd.c2
  have l0 := hl.m0
  have l1 := hl.m1
  have l2 := hl.m2
  obtain ⟨f, hf⟩ : ∃ f, coldI l o 0 d.c1 = f := ⟨_, rfl⟩
  obtain ⟨m, hm⟩ : ∃ m, warmI l o 1 (-d.c0) = m := ⟨_, rfl⟩
  rw [hf, hm] at hy
  have hF : ∀ W, Below w.heap.size w W → Calls Tryz.prog 78 #[.agg #[.int .i64 l.gr, .int .i64 l.la, (.slice va l.n cap), .int .i64 l.m0, .int .i64 l.m1, .int .i64 l.so, .int .i64 l.h0, .int .i64 l.h1], .agg #[.int .i64 o.b0, .int .i64 o.b1, .int .i64 o.w0, .int .i64 o.w1, .int .i64 o.q0, .int .i64 o.q1, .int .i64 o.s0, .int .i64 o.s1], .agg #[.int .i64 (max d.c0 0), .int .i64 d.c1]] W
      fun e w' => e = .returned (.agg #[.int .i64 f.b0, .int .i64 f.b1, .int .i64 f.w0, .int .i64 f.w1, .int .i64 f.q0, .int .i64 f.q1, .int .i64 f.s0, .int .i64 f.s1]) ∧ Below W.heap.size W w' := fun W hW => by
    rw [← hf, show max d.c0 0 = 0 by omega]
    exact freeze_any _ _ _ _ _ _ _ _ _ _ _ _ _ _ _ _ _ _ _ _ _ _ W hl.n1 (hv.later hW) hl.p0 hl.p1 hl.g0 hl.g1 hl.a0 hoi.b0 hoi.b0' hoi.b1 hoi.b1' hoi.w0 hoi.w0' hoi.w1 hoi.w1' hoi.q0 hoi.q0' hoi.q1 hoi.q1' (by omega) (by omega) (by omega) d2 _ _ rfl rfl
  have hM : ∀ W, Calls Tryz.prog 76 #[.agg #[.int .i64 l.gr, .int .i64 l.la, (.slice va l.n cap), .int .i64 l.m0, .int .i64 l.m1, .int .i64 l.so, .int .i64 l.h0, .int .i64 l.h1], .agg #[.int .i64 o.b0, .int .i64 o.b1, .int .i64 o.w0, .int .i64 o.w1, .int .i64 o.q0, .int .i64 o.q1, .int .i64 o.s0, .int .i64 o.s1], .agg #[.int .i64 (max (-d.c1) 1), .int .i64 (-d.c0)]] W
      fun e w' => e = .returned (.agg #[.int .i64 m.b0, .int .i64 m.b1, .int .i64 m.w0, .int .i64 m.w1, .int .i64 m.q0, .int .i64 m.q1, .int .i64 m.s0, .int .i64 m.s1]) ∧ Below W.heap.size W w' := fun W => by
    refine melt_any _ _ _ _ _ _ _ _ o _ _ W ⟨_, _, _, rfl⟩ hoi l0 (by omega) (by omega) l2 (by omega) (by omega) (by omega) (by omega) m ?_
    rw [← hm, show max (-d.c1) 1 = 1 by omega]
    rfl
  have hJ : ∀ W, Calls Tryz.prog 79 #[.agg #[.int .i64 f.b0, .int .i64 f.b1, .int .i64 f.w0, .int .i64 f.w1, .int .i64 f.q0, .int .i64 f.q1, .int .i64 f.s0, .int .i64 f.s1], .agg #[.int .i64 m.b0, .int .i64 m.b1, .int .i64 m.w0, .int .i64 m.w1, .int .i64 m.q0, .int .i64 m.q1, .int .i64 m.s0, .int .i64 m.s1]] W fun e w' => e = .returned (.agg #[.int .i64 y.b0, .int .i64 y.b1, .int .i64 y.w0, .int .i64 y.w1, .int .i64 y.q0, .int .i64 y.q1, .int .i64 y.s0, .int .i64 y.s1]) ∧ Below W.heap.size W w' := fun W => by
    rw [hy]
    exact join_any f m W
  have HF := Lib.hid hF
  have HJ := Lib.hid hJ
  clear hF hJ hf hm
  have n0 : IntKind.i64.wrap (-d.c0) = -d.c0 := IntWalk.i64_in _ (by omega)
  have n1 : IntKind.i64.wrap (-d.c1) = -d.c1 := IntWalk.i64_in _ (by omega)
  have HC := Lib.hid hC
  have HM := Lib.hid hM
  clear hC hM hv hl hx hd ho hoi hy l0 l1 l2
  have T0 : Eight ((((w.alloc (.cells #[.int .i64 l.gr, .int .i64 l.la, .slice va l.n cap, .int .i64 l.m0, .int .i64 l.m1, .int .i64 l.so, .int .i64 l.h0, .int .i64 l.h1] 26)).alloc (.cells #[.int .i64 x.b0, .int .i64 x.b1, .int .i64 x.w0, .int .i64 x.w1, .int .i64 x.q0, .int .i64 x.q1, .int .i64 x.s0, .int .i64 x.s1] 28)).alloc (.cells #[.int .i64 d.c0, .int .i64 d.c1, .int .i64 d.f0, .int .i64 d.f1, .int .i64 d.wa, .bool d.cl] 58)).alloc (.cells #[.int .i64 0, .int .i64 0, .int .i64 0, .int .i64 0, .int .i64 0, .int .i64 0, .int .i64 0, .int .i64 0] 28)) (w.heap.size + 1 + 1 + 1) 28 := ⟨_, _, _, _, _, _, _, _, Blk.new3 w (.cells #[.int .i64 l.gr, .int .i64 l.la, .slice va l.n cap, .int .i64 l.m0, .int .i64 l.m1, .int .i64 l.so, .int .i64 l.h0, .int .i64 l.h1] 26) (.cells #[.int .i64 x.b0, .int .i64 x.b1, .int .i64 x.w0, .int .i64 x.w1, .int .i64 x.q0, .int .i64 x.q1, .int .i64 x.s0, .int .i64 x.s1] 28) (.cells #[.int .i64 d.c0, .int .i64 d.c1, .int .i64 d.f0, .int .i64 d.f1, .int .i64 d.wa, .bool d.cl] 58) #[.int .i64 0, .int .i64 0, .int .i64 0, .int .i64 0, .int .i64 0, .int .i64 0, .int .i64 0, .int .i64 0] 28⟩
  have T1 : Blk ((((w.alloc (.cells #[.int .i64 l.gr, .int .i64 l.la, .slice va l.n cap, .int .i64 l.m0, .int .i64 l.m1, .int .i64 l.so, .int .i64 l.h0, .int .i64 l.h1] 26)).alloc (.cells #[.int .i64 x.b0, .int .i64 x.b1, .int .i64 x.w0, .int .i64 x.w1, .int .i64 x.q0, .int .i64 x.q1, .int .i64 x.s0, .int .i64 x.s1] 28)).alloc (.cells #[.int .i64 d.c0, .int .i64 d.c1, .int .i64 d.f0, .int .i64 d.f1, .int .i64 d.wa, .bool d.cl] 58)).alloc (.cells #[.int .i64 0, .int .i64 0, .int .i64 0, .int .i64 0, .int .i64 0, .int .i64 0, .int .i64 0, .int .i64 0] 28)) w.heap.size #[.int .i64 l.gr, .int .i64 l.la, .slice va l.n cap, .int .i64 l.m0, .int .i64 l.m1, .int .i64 l.so, .int .i64 l.h0, .int .i64 l.h1] 26 := (((Blk.new w _ _).alloc _).alloc _).alloc _
  have T2 : Blk ((((w.alloc (.cells #[.int .i64 l.gr, .int .i64 l.la, .slice va l.n cap, .int .i64 l.m0, .int .i64 l.m1, .int .i64 l.so, .int .i64 l.h0, .int .i64 l.h1] 26)).alloc (.cells #[.int .i64 x.b0, .int .i64 x.b1, .int .i64 x.w0, .int .i64 x.w1, .int .i64 x.q0, .int .i64 x.q1, .int .i64 x.s0, .int .i64 x.s1] 28)).alloc (.cells #[.int .i64 d.c0, .int .i64 d.c1, .int .i64 d.f0, .int .i64 d.f1, .int .i64 d.wa, .bool d.cl] 58)).alloc (.cells #[.int .i64 0, .int .i64 0, .int .i64 0, .int .i64 0, .int .i64 0, .int .i64 0, .int .i64 0, .int .i64 0] 28)) (w.heap.size + 1) #[.int .i64 x.b0, .int .i64 x.b1, .int .i64 x.w0, .int .i64 x.w1, .int .i64 x.q0, .int .i64 x.q1, .int .i64 x.s0, .int .i64 x.s1] 28 := ((Blk.new1 w _ _ _).alloc _).alloc _
  have T3 : Blk ((((w.alloc (.cells #[.int .i64 l.gr, .int .i64 l.la, .slice va l.n cap, .int .i64 l.m0, .int .i64 l.m1, .int .i64 l.so, .int .i64 l.h0, .int .i64 l.h1] 26)).alloc (.cells #[.int .i64 x.b0, .int .i64 x.b1, .int .i64 x.w0, .int .i64 x.w1, .int .i64 x.q0, .int .i64 x.q1, .int .i64 x.s0, .int .i64 x.s1] 28)).alloc (.cells #[.int .i64 d.c0, .int .i64 d.c1, .int .i64 d.f0, .int .i64 d.f1, .int .i64 d.wa, .bool d.cl] 58)).alloc (.cells #[.int .i64 0, .int .i64 0, .int .i64 0, .int .i64 0, .int .i64 0, .int .i64 0, .int .i64 0, .int .i64 0] 28)) (w.heap.size + 1 + 1) #[.int .i64 d.c0, .int .i64 d.c1, .int .i64 d.f0, .int .i64 d.f1, .int .i64 d.wa, .bool d.cl] 58 := (Blk.new2 w _ _ _ _).alloc _
  have T4 : Below w.heap.size w ((((w.alloc (.cells #[.int .i64 l.gr, .int .i64 l.la, .slice va l.n cap, .int .i64 l.m0, .int .i64 l.m1, .int .i64 l.so, .int .i64 l.h0, .int .i64 l.h1] 26)).alloc (.cells #[.int .i64 x.b0, .int .i64 x.b1, .int .i64 x.w0, .int .i64 x.w1, .int .i64 x.q0, .int .i64 x.q1, .int .i64 x.s0, .int .i64 x.s1] 28)).alloc (.cells #[.int .i64 d.c0, .int .i64 d.c1, .int .i64 d.f0, .int .i64 d.f1, .int .i64 d.wa, .bool d.cl] 58)).alloc (.cells #[.int .i64 0, .int .i64 0, .int .i64 0, .int .i64 0, .int .i64 0, .int .i64 0, .int .i64 0, .int .i64 0] 28)) := by (repeat (first | exact Below.refl _ _ | assumption | refine Below.drew ?_ | refine Below.drewN ?_ _ | refine blT ?_ | refine blU ?_))
  go_enter Tryz.func55, Tryz.ntmps55
  go_upto_region 1 with fail
  generalize ((((w.alloc (.cells #[.int .i64 l.gr, .int .i64 l.la, .slice va l.n cap, .int .i64 l.m0, .int .i64 l.m1, .int .i64 l.so, .int .i64 l.h0, .int .i64 l.h1] 26)).alloc (.cells #[.int .i64 x.b0, .int .i64 x.b1, .int .i64 x.w0, .int .i64 x.w1, .int .i64 x.q0, .int .i64 x.q1, .int .i64 x.s0, .int .i64 x.s1] 28)).alloc (.cells #[.int .i64 d.c0, .int .i64 d.c1, .int .i64 d.f0, .int .i64 d.f1, .int .i64 d.wa, .bool d.cl] 58)).alloc (.cells #[.int .i64 0, .int .i64 0, .int .i64 0, .int .i64 0, .int .i64 0, .int .i64 0, .int .i64 0, .int .i64 0] 28)) = V at T0 T1 T2 T3 T4 ⊢
  go_cut [7] (fun s7 wx => ∃ bA : Nat, s7 = .pointer (some ⟨bA, 0, none⟩) ∧ Blk wx bA #[.int .i64 o.b0, .int .i64 o.b1, .int .i64 o.w0, .int .i64 o.w1, .int .i64 o.q0, .int .i64 o.q1, .int .i64 o.s0, .int .i64 o.s1] 105 ∧ Blk wx w.heap.size #[.int .i64 l.gr, .int .i64 l.la, .slice va l.n cap, .int .i64 l.m0, .int .i64 l.m1, .int .i64 l.so, .int .i64 l.h0, .int .i64 l.h1] 26 ∧ Blk wx (w.heap.size + 1 + 1) #[.int .i64 d.c0, .int .i64 d.c1, .int .i64 d.f0, .int .i64 d.f1, .int .i64 d.wa, .bool d.cl] 58 ∧ Eight wx (w.heap.size + 1 + 1 + 1) 28 ∧ w.heap.size + 1 + 1 + 1 < bA ∧ Below w.heap.size w wx)
  case first =>
    (
 let S9 : World → Prop := (fun w' => Blk w' w.heap.size #[.int .i64 l.gr, .int .i64 l.la, .slice va l.n cap, .int .i64 l.m0, .int .i64 l.m1, .int .i64 l.so, .int .i64 l.h0, .int .i64 l.h1] 26 ∧ Blk w' (w.heap.size + 1) #[.int .i64 x.b0, .int .i64 x.b1, .int .i64 x.w0, .int .i64 x.w1, .int .i64 x.q0, .int .i64 x.q1, .int .i64 x.s0, .int .i64 x.s1] 28 ∧ Blk w' (w.heap.size + 1 + 1) #[.int .i64 d.c0, .int .i64 d.c1, .int .i64 d.f0, .int .i64 d.f1, .int .i64 d.wa, .bool d.cl] 58 ∧ Eight w' (w.heap.size + 1 + 1 + 1) 28 ∧ Below w.heap.size w w')
 refine wp_region_held_drew (S := S9) (by kernel_rfl) ?_ (fun hH => ?_)
 · (try dsimp only); (exact ⟨T1.drew, T2.drew, T3.drew, T0, T4.drew⟩)
 apply share0 (fun (bA : Nat) (W : World) => S9 W ∧ Blk W bA #[.int .i64 0, .int .i64 0, .int .i64 0, .int .i64 0, .int .i64 0, .int .i64 0, .int .i64 0, .int .i64 0] 105 ∧ (w.heap.size + 1 + 1 + 1 < bA))
 {
 intro X2
 apply share0 (fun (bA : Nat) (W : World) => S9 W ∧ Blk W bA #[.int .i64 0, .int .i64 0, .int .i64 0, .int .i64 0, .int .i64 0, .int .i64 0, .int .i64 0, .int .i64 0] 105 ∧ (w.heap.size + 1 + 1 + 1 < bA))
 {
 intro X1
 apply share0 (fun (bA : Nat) (W : World) => S9 W ∧ Blk W bA #[.int .i64 0, .int .i64 0, .int .i64 0, .int .i64 0, .int .i64 0, .int .i64 0, .int .i64 0, .int .i64 0] 105 ∧ (w.heap.size + 1 + 1 + 1 < bA))
 {
 intro X0
 refine tkY 0 (some 10) ?_ ?_ ?_
 rotate_left
 · intro w hS0; (try dsimp only at hS0); obtain ⟨kl, ki, kd, _, _⟩ := hS0; obtain ⟨l0, l1, l2, l3, l4, l5, l6, l7⟩ := kl.c8; obtain ⟨i0, i1, i2, i3, i4, i5, i6, i7⟩ := ki.c8; obtain ⟨d0, d1, d2, d3, d4, d5⟩ := kd.c6;go_simp; (try with_reducible rfl)
 (try simp only [cq])
 refine tkY 1 (some 11) ?_ ?_ ?_
 rotate_left
 · intro w hS0; (try dsimp only at hS0); obtain ⟨kl, ki, kd, _, _⟩ := hS0; obtain ⟨l0, l1, l2, l3, l4, l5, l6, l7⟩ := kl.c8; obtain ⟨i0, i1, i2, i3, i4, i5, i6, i7⟩ := ki.c8; obtain ⟨d0, d1, d2, d3, d4, d5⟩ := kd.c6;go_simp; (try with_reducible rfl)
 (try simp only [cq])
 refine tkY 3 (some 13) ?_ ?_ ?_
 rotate_left
 · intro w hS0; (try dsimp only at hS0); obtain ⟨kl, ki, kd, _, _⟩ := hS0; obtain ⟨l0, l1, l2, l3, l4, l5, l6, l7⟩ := kl.c8; obtain ⟨i0, i1, i2, i3, i4, i5, i6, i7⟩ := ki.c8; obtain ⟨d0, d1, d2, d3, d4, d5⟩ := kd.c6;go_simp; (try with_reducible rfl)
 (try simp only [cq])
 refine wpAnyH_ready (rs := [2, 5]) (by kernel_rfl) (by simp) ?_
 refine arc (some 12) (fun K hK => ?_) ?_
 {
 go_simp
 (refine (known_any _ _ _ _ _ _ _ _ _).mono ?_; rintro e w' ⟨rfl, hb⟩; (try replace hA := hA.call hb))
 refine hK.out _ _ ?_ ?_
 · (exact ⟨hH.1.call hb, hH.2.1.call hb, hH.2.2.1.call hb, hH.2.2.2.1.call hb, bwS hH.2.2.2.2 (Nat.le_refl _) hb⟩)
 (try clear hH); (try clear hb)
 intro hH
 clear hK K
 (try simp only [cq])
 refine wpAnyH_ready (rs := [4, 5]) (by kernel_rfl) (by simp) ?_
 refine arc (some 14) (fun K hK => ?_) ?_
 {
 go_simp
 (refine (HC.out _).mono ?_; rintro e w' ⟨rfl, hb⟩; (try replace hA := hA.call hb))
 refine hK.out _ _ ?_ ?_
 · (exact ⟨hH.1.call hb, hH.2.1.call hb, hH.2.2.1.call hb, hH.2.2.2.1.call hb, bwS hH.2.2.2.2 (Nat.le_refl _) hb⟩)
 (try clear hH); (try clear hb)
 intro hH
 clear hK K
 (try simp only [cq])
 refine wpAnyH_ready (rs := [5]) (by kernel_rfl) (by simp) ?_
 refine arc1 (some 7) fun K hK => ?_
 (have hN1 := hH.2.2.2.1.lt; (try simp only [World.drew] at hN1))
 go_simp
 first | refine oA hK ?_ (fun hH hA => ?_) | refine oD hK ?_ (fun hH hA => ?_)
 · exact ⟨hH.1.alloc _, hH.2.1.alloc _, hH.2.2.1.alloc _, hH.2.2.2.1.alloc _, bwA hH.2.2.2.2 (Nat.le_refl _) _⟩
 clear hK K
 (try simp only [cq])
 obtain ⟨bA, hbA⟩ : ∃ b, Blk.num hA = b := ⟨_, rfl⟩
 obtain ⟨W, hW⟩ : ∃ V, Blk.wld hA = V := ⟨_, rfl⟩
 simp only [Blk.num] at hbA
 simp only [Blk.wld] at hW
 rw [hW] at hH hA ⊢
 rw [hbA] at hA ⊢
 replace hN1 : w.heap.size + 1 + 1 + 1 < bA := (by rw [← hbA]; exact hN1)
 clear hW hbA
 exact X2  bA W ⟨hH, hA, hN1⟩
 }
 refine arc (some 7) (fun K hK => ?_) ?_
 {
 (have hN1 := hH.2.2.2.1.lt; (try simp only [World.drew] at hN1))
 go_simp
 first | refine oA hK ?_ (fun hH hA => ?_) | refine oD hK ?_ (fun hH hA => ?_)
 · exact ⟨hH.1.alloc _, hH.2.1.alloc _, hH.2.2.1.alloc _, hH.2.2.2.1.alloc _, bwA hH.2.2.2.2 (Nat.le_refl _) _⟩
 clear hK K
 (try simp only [cq])
 obtain ⟨bA, hbA⟩ : ∃ b, Blk.num hA = b := ⟨_, rfl⟩
 obtain ⟨W, hW⟩ : ∃ V, Blk.wld hA = V := ⟨_, rfl⟩
 simp only [Blk.num] at hbA
 simp only [Blk.wld] at hW
 rw [hW] at hH hA ⊢
 rw [hbA] at hA ⊢
 replace hN1 : w.heap.size + 1 + 1 + 1 < bA := (by rw [← hbA]; exact hN1)
 clear hW hbA
 exact X1  bA W ⟨hH, hA, hN1⟩
 }
 exact AllReadyH.nil
 }
 refine arc (some 7) (fun K hK => ?_) ?_
 {
 (have hN1 := hH.2.2.2.1.lt; (try simp only [World.drew] at hN1))
 go_simp
 first | refine oA hK ?_ (fun hH hA => ?_) | refine oD hK ?_ (fun hH hA => ?_)
 · exact ⟨hH.1.alloc _, hH.2.1.alloc _, hH.2.2.1.alloc _, hH.2.2.2.1.alloc _, bwA hH.2.2.2.2 (Nat.le_refl _) _⟩
 clear hK K
 (try simp only [cq])
 obtain ⟨bA, hbA⟩ : ∃ b, Blk.num hA = b := ⟨_, rfl⟩
 obtain ⟨W, hW⟩ : ∃ V, Blk.wld hA = V := ⟨_, rfl⟩
 simp only [Blk.num] at hbA
 simp only [Blk.wld] at hW
 rw [hW] at hH hA ⊢
 rw [hbA] at hA ⊢
 replace hN1 : w.heap.size + 1 + 1 + 1 < bA := (by rw [← hbA]; exact hN1)
 clear hW hbA
 exact X0  bA W ⟨hH, hA, hN1⟩
 }
 exact AllReadyH.nil
 }
 {
 intro bA W hall
 obtain ⟨hH, hA, hN1⟩ := hall
 (try dsimp only at hH)
 (try clear X2)
 refine wpAnyH_ready (rs := [2]) (by kernel_rfl) (by simp) ?_
 refine arc1 (some 12) fun K hK => ?_
 go_simp
 (refine (known_any _ _ _ _ _ _ _ _ _).mono ?_; rintro e w' ⟨rfl, hb⟩; (try replace hA := hA.call hb))
 refine hK.out _ _ ?_ ?_
 · (exact ⟨hH.1.call hb, hH.2.1.call hb, hH.2.2.1.call hb, hH.2.2.2.1.call hb, bwS hH.2.2.2.2 (Nat.le_refl _) hb⟩)
 (try clear hH); (try clear hb)
 intro hH
 clear hK K
 (try simp only [cq])
 exact X1  bA w' ⟨hH, hA, hN1⟩
 }
 }
 {
 intro bA W hall
 obtain ⟨hH, hA, hN1⟩ := hall
 (try dsimp only at hH)
 refine wpAnyH_ready (rs := [4]) (by kernel_rfl) (by simp) ?_
 refine arc1 (some 14) fun K hK => ?_
 go_simp
 (refine (HC.out _).mono ?_; rintro e w' ⟨rfl, hb⟩; (try replace hA := hA.call hb))
 refine hK.out _ _ ?_ ?_
 · (exact ⟨hH.1.call hb, hH.2.1.call hb, hH.2.2.1.call hb, hH.2.2.2.1.call hb, bwS hH.2.2.2.2 (Nat.le_refl _) hb⟩)
 (try clear hH); (try clear hb)
 intro hH
 clear hK K
 (try simp only [cq])
 exact X2  bA w' ⟨hH, hA, hN1⟩
 }
 }
 {
 intro bA W hall
 obtain ⟨hH, hA, hN1⟩ := hall
 (try dsimp only at hH)
 refine wpAnyH_ready (rs := [6]) (by kernel_rfl) (by simp) ?_
 refine arc1 none fun K hK => ?_
 obtain ⟨h1, h2, h3, h4, hD⟩ := hH
 obtain ⟨r0, r1, r2, r3, r4, r5, r6, r7⟩ := hA.c8
 have fr0 := hA.free 0
 have fr1 := hA.free 1
 have fr2 := hA.free 2
 have fr3 := hA.free 3
 have fr4 := hA.free 4
 have fr5 := hA.free 5
 have fr6 := hA.free 6
 have fr7 := hA.free 7
 have zR := hA.lt
 have HS := Lib.hid (hA.set8 (.int .i64 o.b0) (.int .i64 o.b1) (.int .i64 o.w0) (.int .i64 o.w1) (.int .i64 o.q0) (.int .i64 o.q1) (.int .i64 o.s0) (.int .i64 o.s1))
 go_simp
 refine hK.out _ _ ?_ ?_
 · with_reducible exact ⟨h1.other8 (by omega) _ _ _ _ _ _ _ _, h2.other8 (by omega) _ _ _ _ _ _ _ _, h3.other8 (by omega) _ _ _ _ _ _ _ _, h4.other8 (by omega) _ _ _ _ _ _ _ _, below_set8 hD (by omega) _ _ _ _ _ _ _ _⟩
 (try clear hH); (try clear hb)
 intro hH
 clear hK K
 (try simp only [cq])
 refine wpAnyH_done (by kernel_rfl) ?_ _
 (try dsimp only [Act.put])
 (try simp only [cq])
 clear hA r0 r1 r2 r3 r4 r5 r6 r7 fr0 fr1 fr2 fr3 fr4 fr5 fr6 fr7 zR hD h1 h2 h3 h4
 go_wp2_with fail
 go_meet
 exact ⟨_, rfl, HS.out, hH.1, hH.2.2.1, hH.2.2.2.1, hN1, hH.2.2.2.2⟩
 } )
  case rest =>
    obtain ⟨bA, rfl, kA, kl, kd, kr, zr, jB⟩ := hcut
    clear T0 T1 T2 T3 T4 HC
    obtain ⟨u0, u1, u2, u3, u4, u5⟩ := kd.c6
    obtain ⟨a0, a1, a2, a3, a4, a5, a6, a7⟩ := kA.c8
    obtain ⟨l0, l1, l2, l3, l4, l5, l6, l7⟩ := kl.c8
    have zD := kd.lt
    have zA := kA.lt
    have zL := kl.lt
    have zD2 := Nat.lt_succ_of_lt zD
    have zA2 := Nat.lt_succ_of_lt zA
    have zL2 := Nat.lt_succ_of_lt zL
    simp only [Nat.succ_eq_add_one] at zD2 zA2 zL2
    go_upto_region 8 with fail
    have k8 := (Blk.new wc #[.int .i64 (max d.c0 0), .int .i64 d.c1] 24).alloc (.cells #[.int .i64 (max (-d.c1) 1), .int .i64 (-d.c0)] 24)
    have k9 := Blk.new1 wc (.cells #[.int .i64 (max d.c0 0), .int .i64 d.c1] 24) #[.int .i64 (max (-d.c1) 1), .int .i64 (-d.c0)] 24
    clear zD2 zA2 zL2 a0 a1 a2 a3 a4 a5 a6 a7 l0 l1 l2 l3 l4 l5 l6 l7 u0 u1 u2 u3 u4 u5 zD zA zL kd
    have z8 : w.heap.size + 1 + 1 + 1 < wc.heap.size := kr.lt
    replace kA := (kA.alloc (.cells #[.int .i64 (max d.c0 0), .int .i64 d.c1] 24)).alloc (.cells #[.int .i64 (max (-d.c1) 1), .int .i64 (-d.c0)] 24)
    replace kl := (kl.alloc (.cells #[.int .i64 (max d.c0 0), .int .i64 d.c1] 24)).alloc (.cells #[.int .i64 (max (-d.c1) 1), .int .i64 (-d.c0)] 24)
    replace kr := (kr.alloc (.cells #[.int .i64 (max d.c0 0), .int .i64 d.c1] 24)).alloc (.cells #[.int .i64 (max (-d.c1) 1), .int .i64 (-d.c0)] 24)
    replace jB := bwA (bwA jB (Nat.le_refl _) (.cells #[.int .i64 (max d.c0 0), .int .i64 d.c1] 24)) (Nat.le_refl _) (.cells #[.int .i64 (max (-d.c1) 1), .int .i64 (-d.c0)] 24)
    generalize (wc.alloc (.cells #[.int .i64 (max d.c0 0), .int .i64 d.c1] 24)).alloc (.cells #[.int .i64 (max (-d.c1) 1), .int .i64 (-d.c0)] 24) = V2 at kA kl kr jB k8 k9 ⊢
    obtain ⟨b8, hb8⟩ : ∃ b, wc.heap.size = b := ⟨_, rfl⟩
    rw [hb8] at k8 k9 z8 ⊢
    clear hb8
    obtain ⟨b9, hb9⟩ : ∃ b, b8 + 1 = b := ⟨_, rfl⟩
    have z9 : b8 < b9 := by omega
    rw [hb9] at k9 ⊢
    clear hb9
    (
 refine wp_region_held_drew (S := (fun w' => Blk w' w.heap.size #[.int .i64 l.gr, .int .i64 l.la, .slice va l.n cap, .int .i64 l.m0, .int .i64 l.m1, .int .i64 l.so, .int .i64 l.h0, .int .i64 l.h1] 26 ∧ Blk w' bA #[.int .i64 o.b0, .int .i64 o.b1, .int .i64 o.w0, .int .i64 o.w1, .int .i64 o.q0, .int .i64 o.q1, .int .i64 o.s0, .int .i64 o.s1] 105 ∧ Blk w' b8 #[.int .i64 (max d.c0 0), .int .i64 d.c1] 24 ∧ Blk w' b9 #[.int .i64 (max (-d.c1) 1), .int .i64 (-d.c0)] 24 ∧ Eight w' (w.heap.size + 1 + 1 + 1) 28 ∧ Below w.heap.size w w')) (by kernel_rfl) ?_ (fun hH => ?_)
 · (try dsimp only); (exact ⟨kl.drew, kA.drew, k8.drew, k9.drew, kr, jB.drew⟩)
 refine tkY 0 (some 51) ?_ ?_ ?_
 rotate_left
 · intro w hS0; (try dsimp only at hS0); obtain ⟨kl, kA, k8, k9, _, _⟩ := hS0; obtain ⟨l0, l1, l2, l3, l4, l5, l6, l7⟩ := kl.c8; obtain ⟨i0, i1, i2, i3, i4, i5, i6, i7⟩ := kA.c8; obtain ⟨u0, u1⟩ := k8.c2; obtain ⟨u2, u3⟩ := k9.c2;go_simp; (try with_reducible rfl)
 (try simp only [cq])
 refine tkY 1 (some 52) ?_ ?_ ?_
 rotate_left
 · intro w hS0; (try dsimp only at hS0); obtain ⟨kl, kA, k8, k9, _, _⟩ := hS0; obtain ⟨l0, l1, l2, l3, l4, l5, l6, l7⟩ := kl.c8; obtain ⟨i0, i1, i2, i3, i4, i5, i6, i7⟩ := kA.c8; obtain ⟨u0, u1⟩ := k8.c2; obtain ⟨u2, u3⟩ := k9.c2;go_simp; (try with_reducible rfl)
 (try simp only [cq])
 refine tkY 2 (some 53) ?_ ?_ ?_
 rotate_left
 · intro w hS0; (try dsimp only at hS0); obtain ⟨kl, kA, k8, k9, _, _⟩ := hS0; obtain ⟨l0, l1, l2, l3, l4, l5, l6, l7⟩ := kl.c8; obtain ⟨i0, i1, i2, i3, i4, i5, i6, i7⟩ := kA.c8; obtain ⟨u0, u1⟩ := k8.c2; obtain ⟨u2, u3⟩ := k9.c2;go_simp; (try with_reducible rfl)
 (try simp only [cq])
 refine tkY 4 (some 55) ?_ ?_ ?_
 rotate_left
 · intro w hS0; (try dsimp only at hS0); obtain ⟨kl, kA, k8, k9, _, _⟩ := hS0; obtain ⟨l0, l1, l2, l3, l4, l5, l6, l7⟩ := kl.c8; obtain ⟨i0, i1, i2, i3, i4, i5, i6, i7⟩ := kA.c8; obtain ⟨u0, u1⟩ := k8.c2; obtain ⟨u2, u3⟩ := k9.c2;go_simp; (try with_reducible rfl)
 (try simp only [cq])
 refine tkY 5 (some 56) ?_ ?_ ?_
 rotate_left
 · intro w hS0; (try dsimp only at hS0); obtain ⟨kl, kA, k8, k9, _, _⟩ := hS0; obtain ⟨l0, l1, l2, l3, l4, l5, l6, l7⟩ := kl.c8; obtain ⟨i0, i1, i2, i3, i4, i5, i6, i7⟩ := kA.c8; obtain ⟨u0, u1⟩ := k8.c2; obtain ⟨u2, u3⟩ := k9.c2;go_simp; (try with_reducible rfl)
 (try simp only [cq])
 refine tkY 6 (some 57) ?_ ?_ ?_
 rotate_left
 · intro w hS0; (try dsimp only at hS0); obtain ⟨kl, kA, k8, k9, _, _⟩ := hS0; obtain ⟨l0, l1, l2, l3, l4, l5, l6, l7⟩ := kl.c8; obtain ⟨i0, i1, i2, i3, i4, i5, i6, i7⟩ := kA.c8; obtain ⟨u0, u1⟩ := k8.c2; obtain ⟨u2, u3⟩ := k9.c2;go_simp; (try with_reducible rfl)
 (try simp only [cq])
 refine wpAnyH_ready (rs := [3]) (by kernel_rfl) (by simp) ?_
 refine arc1 (some 54) fun K hK => ?_
 go_simp
 (refine (HF.out _ hH.2.2.2.2.2).mono ?_; rintro e w' ⟨rfl, hb⟩)
 refine hK.out _ _ ?_ ?_
 · (exact ⟨hH.1.call hb, hH.2.1.call hb, hH.2.2.1.call hb, hH.2.2.2.1.call hb, hH.2.2.2.2.1.call hb, bwS hH.2.2.2.2.2 (Nat.le_refl _) hb⟩)
 (try clear hH); (try clear hb)
 intro hH
 clear hK K
 (try simp only [cq])
 refine wpAnyH_ready (rs := [7]) (by kernel_rfl) (by simp) ?_
 refine arc1 (some 58) fun K hK => ?_
 go_simp
 (refine (HM.out _).mono ?_; rintro e w' ⟨rfl, hb⟩)
 refine hK.out _ _ ?_ ?_
 · (exact ⟨hH.1.call hb, hH.2.1.call hb, hH.2.2.1.call hb, hH.2.2.2.1.call hb, hH.2.2.2.2.1.call hb, bwS hH.2.2.2.2.2 (Nat.le_refl _) hb⟩)
 (try clear hH); (try clear hb)
 intro hH
 clear hK K
 (try simp only [cq])
 refine wpAnyH_ready (rs := [8]) (by kernel_rfl) (by simp) ?_
 refine arc1 (some 59) fun K hK => ?_
 go_simp
 (refine (HJ.out _).mono ?_; rintro e w' ⟨rfl, hb⟩)
 refine hK.out _ _ ?_ ?_
 · (exact ⟨hH.1.call hb, hH.2.1.call hb, hH.2.2.1.call hb, hH.2.2.2.1.call hb, hH.2.2.2.2.1.call hb, bwS hH.2.2.2.2.2 (Nat.le_refl _) hb⟩)
 (try clear hH); (try clear hb)
 intro hH
 clear hK K
 (try simp only [cq])
 refine wpAnyH_ready (rs := [9]) (by kernel_rfl) (by simp) ?_
 refine arc1 (some 60) fun K hK => ?_
 go_simp
 (refine (boxice_any _ _ _ _ _ _ _ _ _).mono ?_; rintro e w' ⟨rfl, hb⟩)
 refine hK.out _ _ ?_ ?_
 · (exact ⟨hH.1.call hb, hH.2.1.call hb, hH.2.2.1.call hb, hH.2.2.2.1.call hb, hH.2.2.2.2.1.call hb, bwS hH.2.2.2.2.2 (Nat.le_refl _) hb⟩)
 (try clear hH); (try clear hb)
 intro hH
 clear hK K
 (try simp only [cq])
 refine wpAnyH_ready (rs := [10]) (by kernel_rfl) (by simp) ?_
 refine arc1 none fun K hK => ?_
 obtain ⟨h1, h2, h3, h4, ⟨x0, x1, x2, x3, x4, x5, x6, x7, hR⟩, hD⟩ := hH
 obtain ⟨r0, r1, r2, r3, r4, r5, r6, r7⟩ := hR.c8
 have fr0 := hR.free 0
 have fr1 := hR.free 1
 have fr2 := hR.free 2
 have fr3 := hR.free 3
 have fr4 := hR.free 4
 have fr5 := hR.free 5
 have fr6 := hR.free 6
 have fr7 := hR.free 7
 have zR := hR.lt
 have HS := Lib.hid (hR.set8 (.int .i64 y.b0) (.int .i64 y.b1) (.int .i64 y.w0) (.int .i64 y.w1) (.int .i64 y.q0) (.int .i64 y.q1) (.int .i64 y.s0) (.int .i64 y.s1))
 have HD := Lib.hid (below_set8 (c := w.heap.size + 1 + 1 + 1) hD (by omega) (.int .i64 y.b0) (.int .i64 y.b1) (.int .i64 y.w0) (.int .i64 y.w1) (.int .i64 y.q0) (.int .i64 y.q1) (.int .i64 y.s0) (.int .i64 y.s1))
 go_simp
 refine hK.out _ _ ?_ ?_
 · exact ⟨h1.other8 (by omega) _ _ _ _ _ _ _ _, h2.other8 (by omega) _ _ _ _ _ _ _ _, h3.other8 (by omega) _ _ _ _ _ _ _ _, h4.other8 (by omega) _ _ _ _ _ _ _ _, ⟨_, _, _, _, _, _, _, _, HS.out⟩, HD.out⟩
 (try clear hH); (try clear hb)
 intro hH
 clear hK K
 (try simp only [cq])
 refine wpAnyH_done (by kernel_rfl) ?_ _
 (try dsimp only [Act.put])
 (try simp only [cq])
 clear r0 r1 r2 r3 r4 r5 r6 r7 fr0 fr1 fr2 fr3 fr4 fr5 fr6 fr7 zR hD h1 h2 h3 h4 hR hH
 obtain ⟨z0, z1, z2, z3, z4, z5, z6, z7⟩ := HS.out.c8
 go_wp2
 exact bodyPost_ret (v := .agg #[.int .i64 y.b0, .int .i64 y.b1, .int .i64 y.w0, .int .i64 y.w1, .int .i64 y.q0, .int .i64 y.q1, .int .i64 y.s0, .int .i64 y.s1]) (by simp [results, Tryz.results55, go_sem, z0, z1, z2, z3, z4, z5, z6, z7]) rfl ⟨rfl, HD.out⟩ )

theorem step_any (l : Lw) (x : Ic) (d : Dy) (va : Option Addr) (cap : Nat) (w : World) (hv : CovAt w (.slice va l.n cap) l.n l.D l.P0 l.P1) (hl : l.Ok) (hx : x.In 400000000) (hd : d.Ok) (y : Ic) (hy : y = stepI l x d) :
    Calls Tryz.prog 55 #[.agg #[.int .i64 l.gr, .int .i64 l.la, (.slice va l.n cap), .int .i64 l.m0, .int .i64 l.m1, .int .i64 l.so, .int .i64 l.h0, .int .i64 l.h1], .agg #[.int .i64 x.b0, .int .i64 x.b1, .int .i64 x.w0, .int .i64 x.w1, .int .i64 x.q0, .int .i64 x.q1, .int .i64 x.s0, .int .i64 x.s1], .agg #[.int .i64 d.c0, .int .i64 d.c1, .int .i64 d.f0, .int .i64 d.f1, .int .i64 d.wa, .bool d.cl]] w
      fun e w' => e = .returned (.agg #[.int .i64 y.b0, .int .i64 y.b1, .int .i64 y.w0, .int .i64 y.w1, .int .i64 y.q0, .int .i64 y.q1, .int .i64 y.s0, .int .i64 y.s1]) ∧ Below w.heap.size w w' := by
  unfold stepI at hy
  by_cases h0 : 0 ≤ d.c0
  · rw [if_pos h0] at hy
    exact step_cold l x d va cap w hv hl hx hd h0 y hy
  · rw [if_neg h0] at hy
    by_cases h1 : d.c1 < 0
    · rw [if_pos h1] at hy
      exact step_warm l x d va cap w hv hl hx hd h1 y hy
    · rw [if_neg h1] at hy
      exact step_both l x d va cap w hv hl hx hd (by omega) (by omega) y hy
end Go.Proofs.YtdbiijldincoiaaGreat

/-
  The reference's cold, warm and step: the same as the program's.
-/
import Derived.Test.YtdbiijldincoiaaGreatTail
import Derived.Test.YtdbiijldincoiaaGreatRef3
import Derived.Test.YtdbiijldincoiaaGreatShare
set_option linter.unusedVariables false
set_option linter.unusedSimpArgs false
namespace Go.Proofs.YtdbiijldincoiaaGreat
open Go.RowKit

@[go_sem, simp] theorem true_wet (x y z u : Value) (w : World) : Sem.run Tryz.prog (Instr.field 117 (.agg #[x, y, z, u]) 2) w = .ok z w := by kernel_rfl

theorem Eight.other4 {w : World} {b : Nat} {t : TypeId} (h : Eight w b t) {c : Nat} (hp : b ≠ c) (y0 y1 y2 y3 : Value) :
    Eight ((((w.setCell ⟨c, 0, none⟩ y0).setCell ⟨c, 1, none⟩ y1).setCell ⟨c, 2, none⟩ y2).setCell ⟨c, 3, none⟩ y3) b t :=
  (((h.other _ _ hp).other _ _ hp).other _ _ hp).other _ _ hp
theorem below_set4 {B : Nat} {w v : World} (h : Below B w v) {c : Nat} (hp : B ≤ c) (y0 y1 y2 y3 : Value) :
    Below B w ((((v.setCell ⟨c, 0, none⟩ y0).setCell ⟨c, 1, none⟩ y1).setCell ⟨c, 2, none⟩ y2).setCell ⟨c, 3, none⟩ y3) :=
  (((h.setCell (p := ⟨c, 0, none⟩) hp _).setCell (p := ⟨c, 1, none⟩) hp _).setCell (p := ⟨c, 2, none⟩) hp _).setCell (p := ⟨c, 3, none⟩) hp _
set_option maxRecDepth 100000 in
set_option maxHeartbeats 16000000 in
theorem rcold_any (l : Lw) (va : Option Addr) (vcap : Nat) (x : Ic) (c0 c1 : Int) (w : World) (hl : l.Ok) (hn : l.n ≤ 1000000) (hv : CovAt w (.slice va l.n vcap) l.n l.D l.P0 l.P1) (hx : x.In 1000000000) (k0 : 0 ≤ c0) (k1 : c0 ≤ 1000) (k2 : 0 ≤ c1) (k3 : c1 ≤ 1000) (y : Ic) (hy : y = coldI l x c0 c1) :
    Calls Tryz.prog 86 #[.agg #[.int .i64 l.gr, .int .i64 l.la, (.slice va l.n vcap), .int .i64 l.m0, .int .i64 l.m1, .int .i64 l.so, .int .i64 l.h0, .int .i64 l.h1], .agg #[.int .i64 x.b0, .int .i64 x.w0, .int .i64 x.q0, .int .i64 x.s0], .agg #[.int .i64 x.b1, .int .i64 x.w1, .int .i64 x.q1, .int .i64 x.s1], .int .i64 c0, .int .i64 c1] w fun e w' => e = .returned (.agg #[.int .i64 y.b0, .int .i64 y.b1, .int .i64 y.w0, .int .i64 y.w1, .int .i64 y.q0, .int .i64 y.q1, .int .i64 y.s0, .int .i64 y.s1]) ∧ Below w.heap.size w w' := by
  have p0 := lastP_in l.D l.P0 x.s1 l.n hl.n1 hl.p0
  have p1 := lastP_in l.D l.P1 x.s0 l.n hl.n1 hl.p1
  have g0 := got_in c0 _ k0 k1 p0.1 p0.2
  have g1 := got_in c1 _ k2 k3 p1.1 p1.2
  have T1 : ∀ W, Below w.heap.size w W → Calls Tryz.prog 105 #[.agg #[.int .i64 l.gr, .int .i64 l.la, (.slice va l.n vcap), .int .i64 l.m0, .int .i64 l.m1, .int .i64 l.so, .int .i64 l.h0, .int .i64 l.h1], .int .i64 x.s1, .int .i64 c0] W fun e w' => e = .returned (.agg #[.int .i64 (gotL c0 (lastP l.D l.P0 x.s1 l.n)), .int .i64 (gotH c0 (lastP l.D l.P1 x.s1 l.n))]) ∧ Below W.heap.size W w' := fun W hW => rthrough_any l va vcap _ _ W hl hn (hv.later hW) k0 k1
  have T2 : ∀ W, Below w.heap.size w W → Calls Tryz.prog 105 #[.agg #[.int .i64 l.gr, .int .i64 l.la, (.slice va l.n vcap), .int .i64 l.m0, .int .i64 l.m1, .int .i64 l.so, .int .i64 l.h0, .int .i64 l.h1], .int .i64 x.s0, .int .i64 c1] W fun e w' => e = .returned (.agg #[.int .i64 (gotL c1 (lastP l.D l.P0 x.s0 l.n)), .int .i64 (gotH c1 (lastP l.D l.P1 x.s0 l.n))]) ∧ Below W.heap.size W w' := fun W hW => rthrough_any l va vcap _ _ W hl hn (hv.later hW) k2 k3
  unfold coldI at hy
  generalize gotL c0 (lastP l.D l.P0 x.s1 l.n) = G0 at hy g0 T1
  generalize gotH c0 (lastP l.D l.P1 x.s1 l.n) = u0 at T1
  generalize gotL c1 (lastP l.D l.P0 x.s0 l.n) = u1 at T2
  generalize gotH c1 (lastP l.D l.P1 x.s0 l.n) = G1 at hy g1 T2
  obtain ⟨a1, a2, a3, a4, a5, a6, a7, a8, a9, a10, a11, a12, a13, a14, a15, a16⟩ := hx
  obtain ⟨k10, ek10⟩ : ∃ t, grownP rtI l.gr l.la x.b0 x.w0 x.q0 G0 = t := ⟨_, rfl⟩
  obtain ⟨k12, ek12⟩ : ∃ t, x.q0 - min x.q0 (G0 / l.la) = t := ⟨_, rfl⟩
  have K1 : Hid (∀ W, Calls Tryz.prog 106 #[.agg #[.int .i64 l.gr, .int .i64 l.la, (.slice va l.n vcap), .int .i64 l.m0, .int .i64 l.m1, .int .i64 l.so, .int .i64 l.h0, .int .i64 l.h1], .agg #[.int .i64 x.b0, .int .i64 x.w0, .int .i64 x.q0, .int .i64 x.s0], .int .i64 G0, .bool false] W fun e w' => e = .returned (.agg #[.int .i64 k10, .int .i64 y.w0, .int .i64 k12, .int .i64 x.s0]) ∧ Below W.heap.size W w') := fun W => by
    have h := rfrozen_false l va vcap x.b0 x.w0 x.q0 x.s0 G0 W hl (by omega) (by omega) (by omega) (by omega) (by omega) (by omega) (by omega) (by omega)
    rw [ek10, ek12] at h
    rw [hy]
    exact h
  obtain ⟨k20, ek20⟩ : ∃ t, grownP rfI l.gr l.la x.b1 x.w1 x.q1 G1 = t := ⟨_, rfl⟩
  obtain ⟨k22, ek22⟩ : ∃ t, x.q1 - min x.q1 (G1 / l.la) = t := ⟨_, rfl⟩
  have K2 : Hid (∀ W, Calls Tryz.prog 106 #[.agg #[.int .i64 l.gr, .int .i64 l.la, (.slice va l.n vcap), .int .i64 l.m0, .int .i64 l.m1, .int .i64 l.so, .int .i64 l.h0, .int .i64 l.h1], .agg #[.int .i64 x.b1, .int .i64 x.w1, .int .i64 x.q1, .int .i64 x.s1], .int .i64 G1, .bool true] W fun e w' => e = .returned (.agg #[.int .i64 k20, .int .i64 y.w1, .int .i64 k22, .int .i64 x.s1]) ∧ Below W.heap.size W w') := fun W => by
    have h := rfrozen_true l va vcap x.b1 x.w1 x.q1 x.s1 G1 W hl (by omega) (by omega) (by omega) (by omega) (by omega) (by omega) (by omega) (by omega)
    rw [ek20, ek22] at h
    rw [hy]
    exact h
  obtain ⟨k30, ek30⟩ : ∃ t, grownP rtI l.gr l.la x.b0 x.w0 x.q0 G1 = t := ⟨_, rfl⟩
  obtain ⟨k31, ek31⟩ : ∃ t, x.w0 + min x.q0 (G1 / l.la) = t := ⟨_, rfl⟩
  have K3 : Hid (∀ W, Calls Tryz.prog 106 #[.agg #[.int .i64 l.gr, .int .i64 l.la, (.slice va l.n vcap), .int .i64 l.m0, .int .i64 l.m1, .int .i64 l.so, .int .i64 l.h0, .int .i64 l.h1], .agg #[.int .i64 x.b0, .int .i64 x.w0, .int .i64 x.q0, .int .i64 x.s0], .int .i64 G1, .bool false] W fun e w' => e = .returned (.agg #[.int .i64 k30, .int .i64 k31, .int .i64 y.q0, .int .i64 x.s0]) ∧ Below W.heap.size W w') := fun W => by
    have h := rfrozen_false l va vcap x.b0 x.w0 x.q0 x.s0 G1 W hl (by omega) (by omega) (by omega) (by omega) (by omega) (by omega) (by omega) (by omega)
    rw [ek30, ek31] at h
    rw [hy]
    exact h
  obtain ⟨k40, ek40⟩ : ∃ t, grownP rtI l.gr l.la x.b1 x.w1 x.q1 G0 = t := ⟨_, rfl⟩
  obtain ⟨k41, ek41⟩ : ∃ t, x.w1 + min x.q1 (G0 / l.la) = t := ⟨_, rfl⟩
  have K4 : Hid (∀ W, Calls Tryz.prog 106 #[.agg #[.int .i64 l.gr, .int .i64 l.la, (.slice va l.n vcap), .int .i64 l.m0, .int .i64 l.m1, .int .i64 l.so, .int .i64 l.h0, .int .i64 l.h1], .agg #[.int .i64 x.b1, .int .i64 x.w1, .int .i64 x.q1, .int .i64 x.s1], .int .i64 G0, .bool false] W fun e w' => e = .returned (.agg #[.int .i64 k40, .int .i64 k41, .int .i64 y.q1, .int .i64 x.s1]) ∧ Below W.heap.size W w') := fun W => by
    have h := rfrozen_false l va vcap x.b1 x.w1 x.q1 x.s1 G0 W hl (by omega) (by omega) (by omega) (by omega) (by omega) (by omega) (by omega) (by omega)
    rw [ek40, ek41] at h
    rw [hy]
    exact h
  obtain ⟨k51, ek51⟩ : ∃ t, x.w1 + min x.q1 (G0 / l.la) = t := ⟨_, rfl⟩
  obtain ⟨k52, ek52⟩ : ∃ t, x.q1 - min x.q1 (G0 / l.la) = t := ⟨_, rfl⟩
  have K5 : Hid (∀ W, Calls Tryz.prog 106 #[.agg #[.int .i64 l.gr, .int .i64 l.la, (.slice va l.n vcap), .int .i64 l.m0, .int .i64 l.m1, .int .i64 l.so, .int .i64 l.h0, .int .i64 l.h1], .agg #[.int .i64 x.b0, .int .i64 x.w1, .int .i64 x.q1, .int .i64 0], .int .i64 G0, .bool false] W fun e w' => e = .returned (.agg #[.int .i64 y.b0, .int .i64 k51, .int .i64 k52, .int .i64 0]) ∧ Below W.heap.size W w') := fun W => by
    have h := rfrozen_false l va vcap x.b0 x.w1 x.q1 0 G0 W hl (by omega) (by omega) (by omega) (by omega) (by omega) (by omega) (by omega) (by omega)
    rw [ek51, ek52] at h
    rw [hy]
    exact h
  obtain ⟨k61, ek61⟩ : ∃ t, x.w0 + min x.q0 (G1 / l.la) = t := ⟨_, rfl⟩
  obtain ⟨k62, ek62⟩ : ∃ t, x.q0 - min x.q0 (G1 / l.la) = t := ⟨_, rfl⟩
  have K6 : Hid (∀ W, Calls Tryz.prog 106 #[.agg #[.int .i64 l.gr, .int .i64 l.la, (.slice va l.n vcap), .int .i64 l.m0, .int .i64 l.m1, .int .i64 l.so, .int .i64 l.h0, .int .i64 l.h1], .agg #[.int .i64 x.b1, .int .i64 x.w0, .int .i64 x.q0, .int .i64 0], .int .i64 G1, .bool true] W fun e w' => e = .returned (.agg #[.int .i64 y.b1, .int .i64 k61, .int .i64 k62, .int .i64 0]) ∧ Below W.heap.size W w') := fun W => by
    have h := rfrozen_true l va vcap x.b1 x.w0 x.q0 0 G1 W hl (by omega) (by omega) (by omega) (by omega) (by omega) (by omega) (by omega) (by omega)
    rw [ek61, ek62] at h
    rw [hy]
    exact h
  have ys0 : y.s0 = x.s0 := by rw [hy]
  have ys1 : y.s1 = x.s1 := by rw [hy]
  have HS0 := Lib.hid ys0
  have HS1 := Lib.hid ys1
  have HT1 := Lib.hid T1
  have HT2 := Lib.hid T2
  clear T1 T2 ys0 ys1 hy ek10 ek12 ek20 ek22 ek30 ek31 ek40 ek41 ek51 ek52 ek61 ek62 a1 a2 a3 a4 a5 a6 a7 a8 a9 a10 a11 a12 a13 a14 a15 a16 p0 p1 g0 g1 k0 k1 k2 k3 hv hl hn
  have jL : Blk ((((w.alloc (.cells #[.int .i64 l.gr, .int .i64 l.la, .slice va l.n vcap, .int .i64 l.m0, .int .i64 l.m1, .int .i64 l.so, .int .i64 l.h0, .int .i64 l.h1] 26)).alloc (.cells #[.int .i64 x.b0, .int .i64 x.w0, .int .i64 x.q0, .int .i64 x.s0] 117)).alloc (.cells #[.int .i64 x.b1, .int .i64 x.w1, .int .i64 x.q1, .int .i64 x.s1] 117)).alloc (.cells #[.int .i64 0, .int .i64 0, .int .i64 0, .int .i64 0, .int .i64 0, .int .i64 0, .int .i64 0, .int .i64 0] 28)) w.heap.size #[.int .i64 l.gr, .int .i64 l.la, .slice va l.n vcap, .int .i64 l.m0, .int .i64 l.m1, .int .i64 l.so, .int .i64 l.h0, .int .i64 l.h1] 26 := (((Blk.new w _ _).alloc _).alloc _).alloc _
  have jA : Blk ((((w.alloc (.cells #[.int .i64 l.gr, .int .i64 l.la, .slice va l.n vcap, .int .i64 l.m0, .int .i64 l.m1, .int .i64 l.so, .int .i64 l.h0, .int .i64 l.h1] 26)).alloc (.cells #[.int .i64 x.b0, .int .i64 x.w0, .int .i64 x.q0, .int .i64 x.s0] 117)).alloc (.cells #[.int .i64 x.b1, .int .i64 x.w1, .int .i64 x.q1, .int .i64 x.s1] 117)).alloc (.cells #[.int .i64 0, .int .i64 0, .int .i64 0, .int .i64 0, .int .i64 0, .int .i64 0, .int .i64 0, .int .i64 0] 28)) (w.heap.size + 1) #[.int .i64 x.b0, .int .i64 x.w0, .int .i64 x.q0, .int .i64 x.s0] 117 := ((Blk.new1 w _ _ _).alloc _).alloc _
  have jH : Blk ((((w.alloc (.cells #[.int .i64 l.gr, .int .i64 l.la, .slice va l.n vcap, .int .i64 l.m0, .int .i64 l.m1, .int .i64 l.so, .int .i64 l.h0, .int .i64 l.h1] 26)).alloc (.cells #[.int .i64 x.b0, .int .i64 x.w0, .int .i64 x.q0, .int .i64 x.s0] 117)).alloc (.cells #[.int .i64 x.b1, .int .i64 x.w1, .int .i64 x.q1, .int .i64 x.s1] 117)).alloc (.cells #[.int .i64 0, .int .i64 0, .int .i64 0, .int .i64 0, .int .i64 0, .int .i64 0, .int .i64 0, .int .i64 0] 28)) (w.heap.size + 1 + 1) #[.int .i64 x.b1, .int .i64 x.w1, .int .i64 x.q1, .int .i64 x.s1] 117 := (Blk.new2 w _ _ _ _).alloc _
  have jR : Eight ((((w.alloc (.cells #[.int .i64 l.gr, .int .i64 l.la, .slice va l.n vcap, .int .i64 l.m0, .int .i64 l.m1, .int .i64 l.so, .int .i64 l.h0, .int .i64 l.h1] 26)).alloc (.cells #[.int .i64 x.b0, .int .i64 x.w0, .int .i64 x.q0, .int .i64 x.s0] 117)).alloc (.cells #[.int .i64 x.b1, .int .i64 x.w1, .int .i64 x.q1, .int .i64 x.s1] 117)).alloc (.cells #[.int .i64 0, .int .i64 0, .int .i64 0, .int .i64 0, .int .i64 0, .int .i64 0, .int .i64 0, .int .i64 0] 28)) (w.heap.size + 1 + 1 + 1) 28 := ⟨_, _, _, _, _, _, _, _, Blk.new3 w (.cells #[.int .i64 l.gr, .int .i64 l.la, .slice va l.n vcap, .int .i64 l.m0, .int .i64 l.m1, .int .i64 l.so, .int .i64 l.h0, .int .i64 l.h1] 26) (.cells #[.int .i64 x.b0, .int .i64 x.w0, .int .i64 x.q0, .int .i64 x.s0] 117) (.cells #[.int .i64 x.b1, .int .i64 x.w1, .int .i64 x.q1, .int .i64 x.s1] 117) #[.int .i64 0, .int .i64 0, .int .i64 0, .int .i64 0, .int .i64 0, .int .i64 0, .int .i64 0, .int .i64 0] 28⟩
  have jB : Below w.heap.size w ((((w.alloc (.cells #[.int .i64 l.gr, .int .i64 l.la, .slice va l.n vcap, .int .i64 l.m0, .int .i64 l.m1, .int .i64 l.so, .int .i64 l.h0, .int .i64 l.h1] 26)).alloc (.cells #[.int .i64 x.b0, .int .i64 x.w0, .int .i64 x.q0, .int .i64 x.s0] 117)).alloc (.cells #[.int .i64 x.b1, .int .i64 x.w1, .int .i64 x.q1, .int .i64 x.s1] 117)).alloc (.cells #[.int .i64 0, .int .i64 0, .int .i64 0, .int .i64 0, .int .i64 0, .int .i64 0, .int .i64 0, .int .i64 0] 28)) := by (repeat (first | exact Below.refl _ _ | assumption | refine Below.drew ?_ | refine Below.drewN ?_ _ | refine blT ?_ | refine blU ?_))
  go_enter Tryz.func86, Tryz.ntmps86
  go_upto_region 1 with fail
  generalize ((((w.alloc (.cells #[.int .i64 l.gr, .int .i64 l.la, .slice va l.n vcap, .int .i64 l.m0, .int .i64 l.m1, .int .i64 l.so, .int .i64 l.h0, .int .i64 l.h1] 26)).alloc (.cells #[.int .i64 x.b0, .int .i64 x.w0, .int .i64 x.q0, .int .i64 x.s0] 117)).alloc (.cells #[.int .i64 x.b1, .int .i64 x.w1, .int .i64 x.q1, .int .i64 x.s1] 117)).alloc (.cells #[.int .i64 0, .int .i64 0, .int .i64 0, .int .i64 0, .int .i64 0, .int .i64 0, .int .i64 0, .int .i64 0] 28)) = V at jL jA jH jR jB ⊢
  go_cut [11, 12] (fun s11 s12 wx => s11 = .int .i64 G0 ∧ s12 = .int .i64 G1 ∧ Blk wx (w.heap.size) #[.int .i64 l.gr, .int .i64 l.la, .slice va l.n vcap, .int .i64 l.m0, .int .i64 l.m1, .int .i64 l.so, .int .i64 l.h0, .int .i64 l.h1] 26 ∧ Blk wx (w.heap.size + 1) #[.int .i64 x.b0, .int .i64 x.w0, .int .i64 x.q0, .int .i64 x.s0] 117 ∧ Blk wx (w.heap.size + 1 + 1) #[.int .i64 x.b1, .int .i64 x.w1, .int .i64 x.q1, .int .i64 x.s1] 117 ∧ Eight wx (w.heap.size + 1 + 1 + 1) 28 ∧ Below w.heap.size w wx)
  case first =>
    (
 refine wp_region_held_drew (S := (fun w' => Blk w' (w.heap.size) #[.int .i64 l.gr, .int .i64 l.la, .slice va l.n vcap, .int .i64 l.m0, .int .i64 l.m1, .int .i64 l.so, .int .i64 l.h0, .int .i64 l.h1] 26 ∧ Blk w' (w.heap.size + 1) #[.int .i64 x.b0, .int .i64 x.w0, .int .i64 x.q0, .int .i64 x.s0] 117 ∧ Blk w' (w.heap.size + 1 + 1) #[.int .i64 x.b1, .int .i64 x.w1, .int .i64 x.q1, .int .i64 x.s1] 117 ∧ Eight w' (w.heap.size + 1 + 1 + 1) 28 ∧ Below w.heap.size w w')) (by kernel_rfl) ?_ (fun hH => ?_)
 · (try dsimp only); (exact ⟨jL.drew, jA.drew, jH.drew, jR, jB.drew⟩)
 refine tkY 0 (some 18) ?_ ?_ ?_
 rotate_left
 · intro w hS0; (try dsimp only at hS0); obtain ⟨kl, ka, kh, _, _⟩ := hS0; obtain ⟨l0, l1, l2, l3, l4, l5, l6, l7⟩ := kl.c8; obtain ⟨a0, a1, a2, a3⟩ := ka.c4; obtain ⟨h0, h1, h2, h3⟩ := kh.c4;go_simp; (try with_reducible rfl)
 (try simp only [cq])
 refine tkY 1 (some 19) ?_ ?_ ?_
 rotate_left
 · intro w hS0; (try dsimp only at hS0); obtain ⟨kl, ka, kh, _, _⟩ := hS0; obtain ⟨l0, l1, l2, l3, l4, l5, l6, l7⟩ := kl.c8; obtain ⟨a0, a1, a2, a3⟩ := ka.c4; obtain ⟨h0, h1, h2, h3⟩ := kh.c4;go_simp; (try with_reducible rfl)
 (try simp only [cq])
 refine tkY 2 (some 20) ?_ ?_ ?_
 rotate_left
 · intro w hS0; (try dsimp only at hS0); obtain ⟨kl, ka, kh, _, _⟩ := hS0; obtain ⟨l0, l1, l2, l3, l4, l5, l6, l7⟩ := kl.c8; obtain ⟨a0, a1, a2, a3⟩ := ka.c4; obtain ⟨h0, h1, h2, h3⟩ := kh.c4;go_simp; (try with_reducible rfl)
 (try simp only [cq])
 refine tkY 3 (some 21) ?_ ?_ ?_
 rotate_left
 · intro w _; go_simp; (try with_reducible rfl)
 (try simp only [cq])
 refine tkY 6 (some 24) ?_ ?_ ?_
 rotate_left
 · intro w hS0; (try dsimp only at hS0); obtain ⟨kl, ka, kh, _, _⟩ := hS0; obtain ⟨l0, l1, l2, l3, l4, l5, l6, l7⟩ := kl.c8; obtain ⟨a0, a1, a2, a3⟩ := ka.c4; obtain ⟨h0, h1, h2, h3⟩ := kh.c4;go_simp; (try with_reducible rfl)
 (try simp only [cq])
 refine tkY 7 (some 25) ?_ ?_ ?_
 rotate_left
 · intro w hS0; (try dsimp only at hS0); obtain ⟨kl, ka, kh, _, _⟩ := hS0; obtain ⟨l0, l1, l2, l3, l4, l5, l6, l7⟩ := kl.c8; obtain ⟨a0, a1, a2, a3⟩ := ka.c4; obtain ⟨h0, h1, h2, h3⟩ := kh.c4;go_simp; (try with_reducible rfl)
 (try simp only [cq])
 refine tkY 8 (some 26) ?_ ?_ ?_
 rotate_left
 · intro w hS0; (try dsimp only at hS0); obtain ⟨kl, ka, kh, _, _⟩ := hS0; obtain ⟨l0, l1, l2, l3, l4, l5, l6, l7⟩ := kl.c8; obtain ⟨a0, a1, a2, a3⟩ := ka.c4; obtain ⟨h0, h1, h2, h3⟩ := kh.c4;go_simp; (try with_reducible rfl)
 (try simp only [cq])
 refine tkY 9 (some 27) ?_ ?_ ?_
 rotate_left
 · intro w _; go_simp; (try with_reducible rfl)
 (try simp only [cq])
 refine wpAnyH_ready (rs := [4]) (by kernel_rfl) (by simp) ?_
 refine arc1 (some 22) fun K hK => ?_
 go_simp
 (refine (HT1.out _ hH.2.2.2.2).mono ?_; rintro e w' ⟨rfl, hb⟩)
 refine hK.out _ _ ?_ ?_
 · (exact ⟨hH.1.call hb, hH.2.1.call hb, hH.2.2.1.call hb, hH.2.2.2.1.call hb, bwS hH.2.2.2.2 (Nat.le_refl _) hb⟩)
 (try clear hH); (try clear hb)
 intro hH
 clear hK K
 (try simp only [cq])
 refine tkY 5 (some 23) ?_ ?_ ?_
 rotate_left
 · intro w _; go_simp; (try with_reducible rfl)
 (try simp only [cq])
 refine wpAnyH_ready (rs := [10]) (by kernel_rfl) (by simp) ?_
 refine arc1 (some 28) fun K hK => ?_
 go_simp
 (refine (HT2.out _ hH.2.2.2.2).mono ?_; rintro e w' ⟨rfl, hb⟩)
 refine hK.out _ _ ?_ ?_
 · (exact ⟨hH.1.call hb, hH.2.1.call hb, hH.2.2.1.call hb, hH.2.2.2.1.call hb, bwS hH.2.2.2.2 (Nat.le_refl _) hb⟩)
 (try clear hH); (try clear hb)
 intro hH
 clear hK K
 (try simp only [cq])
 refine tkY 11 (some 29) ?_ ?_ ?_
 rotate_left
 · intro w _; go_simp; (try with_reducible rfl)
 (try simp only [cq])
 refine tkY 12 (some 11) ?_ ?_ ?_
 rotate_left
 · intro w _; go_simp; (try with_reducible rfl)
 (try simp only [cq])
 refine tkY 13 (some 12) ?_ ?_ ?_
 rotate_left
 · intro w _; go_simp; (try with_reducible rfl)
 (try simp only [cq])
 refine wpAnyH_done (by kernel_rfl) ?_ _
 (try dsimp only [Act.put])
 (try simp only [cq])
 go_wp2_with fail
 go_meet
 exact ⟨rfl, rfl, hH.1, hH.2.1, hH.2.2.1, hH.2.2.2.1, hH.2.2.2.2⟩ )
  case rest =>
    obtain ⟨rfl, rfl, jL, jA, jH, jR, jB⟩ := hcut
    clear HT1 HT2
    go_upto_region 2 with fail
    go_cut [13, 14] (fun s13 s14 wx => ∃ bA bE : Nat, s13 = .pointer (some ⟨bA, 0, none⟩) ∧ s14 = .pointer (some ⟨bE, 0, none⟩) ∧ Blk wx bA #[.int .i64 k10, .int .i64 y.w0, .int .i64 k12, .int .i64 x.s0] 117 ∧ Blk wx bE #[.int .i64 k20, .int .i64 y.w1, .int .i64 k22, .int .i64 x.s1] 117 ∧ w.heap.size + 1 + 1 + 1 < bA ∧ w.heap.size + 1 + 1 + 1 < bE ∧ Blk wx (w.heap.size) #[.int .i64 l.gr, .int .i64 l.la, .slice va l.n vcap, .int .i64 l.m0, .int .i64 l.m1, .int .i64 l.so, .int .i64 l.h0, .int .i64 l.h1] 26 ∧ Blk wx (w.heap.size + 1) #[.int .i64 x.b0, .int .i64 x.w0, .int .i64 x.q0, .int .i64 x.s0] 117 ∧ Blk wx (w.heap.size + 1 + 1) #[.int .i64 x.b1, .int .i64 x.w1, .int .i64 x.q1, .int .i64 x.s1] 117 ∧ Eight wx (w.heap.size + 1 + 1 + 1) 28 ∧ Below w.heap.size w wx)
    case first =>
      (
 let S9 : World → Prop := (fun w' => Blk w' (w.heap.size) #[.int .i64 l.gr, .int .i64 l.la, .slice va l.n vcap, .int .i64 l.m0, .int .i64 l.m1, .int .i64 l.so, .int .i64 l.h0, .int .i64 l.h1] 26 ∧ Blk w' (w.heap.size + 1) #[.int .i64 x.b0, .int .i64 x.w0, .int .i64 x.q0, .int .i64 x.s0] 117 ∧ Blk w' (w.heap.size + 1 + 1) #[.int .i64 x.b1, .int .i64 x.w1, .int .i64 x.q1, .int .i64 x.s1] 117 ∧ Eight w' (w.heap.size + 1 + 1 + 1) 28 ∧ Below w.heap.size w w')
 refine wp_region_held_drew (S := S9) (by kernel_rfl) ?_ (fun hH => ?_)
 · (try dsimp only); (exact ⟨jL.drew, jA.drew, jH.drew, jR, jB.drew⟩)
 apply share0_2 (fun (bA bE : Nat) (W : World) => S9 W ∧ Blk W bA #[.int .i64 0, .int .i64 0, .int .i64 0, .int .i64 0] 117 ∧ Blk W bE #[.int .i64 0, .int .i64 0, .int .i64 0, .int .i64 0] 117 ∧ (w.heap.size + 1 + 1 + 1 < bA) ∧ (w.heap.size + 1 + 1 + 1 < bE) ∧ (bA ≠ bE))
 {
 intro X2_01
 apply share0_2 (fun (bA bE : Nat) (W : World) => S9 W ∧ Blk W bA #[.int .i64 0, .int .i64 0, .int .i64 0, .int .i64 0] 117 ∧ Blk W bE #[.int .i64 0, .int .i64 0, .int .i64 0, .int .i64 0] 117 ∧ (w.heap.size + 1 + 1 + 1 < bA) ∧ (w.heap.size + 1 + 1 + 1 < bE) ∧ (bA ≠ bE))
 {
 intro X1_01
 apply share0_1 (fun (bA : Nat) (W : World) => S9 W ∧ Blk W bA #[.int .i64 0, .int .i64 0, .int .i64 0, .int .i64 0] 117 ∧ (w.heap.size + 1 + 1 + 1 < bA))
 {
 intro X2_0
 apply share0_1 (fun (bE : Nat) (W : World) => S9 W ∧ Blk W bE #[.int .i64 0, .int .i64 0, .int .i64 0, .int .i64 0] 117 ∧ (w.heap.size + 1 + 1 + 1 < bE))
 {
 intro X2_1
 apply share0_2 (fun (bA bE : Nat) (W : World) => S9 W ∧ Blk W bA #[.int .i64 0, .int .i64 0, .int .i64 0, .int .i64 0] 117 ∧ Blk W bE #[.int .i64 0, .int .i64 0, .int .i64 0, .int .i64 0] 117 ∧ (w.heap.size + 1 + 1 + 1 < bA) ∧ (w.heap.size + 1 + 1 + 1 < bE) ∧ (bA ≠ bE))
 {
 intro X0_01
 apply share0_1 (fun (bA : Nat) (W : World) => S9 W ∧ Blk W bA #[.int .i64 0, .int .i64 0, .int .i64 0, .int .i64 0] 117 ∧ (w.heap.size + 1 + 1 + 1 < bA))
 {
 intro X1_0
 apply share0_1 (fun (bE : Nat) (W : World) => S9 W ∧ Blk W bE #[.int .i64 0, .int .i64 0, .int .i64 0, .int .i64 0] 117 ∧ (w.heap.size + 1 + 1 + 1 < bE))
 {
 intro X1_1
 apply share0_1 (fun (bA : Nat) (W : World) => S9 W ∧ Blk W bA #[.int .i64 0, .int .i64 0, .int .i64 0, .int .i64 0] 117 ∧ (w.heap.size + 1 + 1 + 1 < bA))
 {
 intro X0_0
 apply share0_1 (fun (bE : Nat) (W : World) => S9 W ∧ Blk W bE #[.int .i64 0, .int .i64 0, .int .i64 0, .int .i64 0] 117 ∧ (w.heap.size + 1 + 1 + 1 < bE))
 {
 intro X0_1
 refine tkY 0 (some 30) ?_ ?_ ?_
 rotate_left
 · intro w hS0; (try dsimp only at hS0); obtain ⟨kl, ka, kh, _, _⟩ := hS0; obtain ⟨l0, l1, l2, l3, l4, l5, l6, l7⟩ := kl.c8; obtain ⟨a0, a1, a2, a3⟩ := ka.c4; obtain ⟨h0, h1, h2, h3⟩ := kh.c4;go_simp; (try with_reducible rfl)
 (try simp only [cq])
 refine tkY 1 (some 31) ?_ ?_ ?_
 rotate_left
 · intro w hS0; (try dsimp only at hS0); obtain ⟨kl, ka, kh, _, _⟩ := hS0; obtain ⟨l0, l1, l2, l3, l4, l5, l6, l7⟩ := kl.c8; obtain ⟨a0, a1, a2, a3⟩ := ka.c4; obtain ⟨h0, h1, h2, h3⟩ := kh.c4;go_simp; (try with_reducible rfl)
 (try simp only [cq])
 refine tkY 2 (some 32) ?_ ?_ ?_
 rotate_left
 · intro w _; go_simp; (try with_reducible rfl)
 (try simp only [cq])
 refine tkY 4 (some 34) ?_ ?_ ?_
 rotate_left
 · intro w hS0; (try dsimp only at hS0); obtain ⟨kl, ka, kh, _, _⟩ := hS0; obtain ⟨l0, l1, l2, l3, l4, l5, l6, l7⟩ := kl.c8; obtain ⟨a0, a1, a2, a3⟩ := ka.c4; obtain ⟨h0, h1, h2, h3⟩ := kh.c4;go_simp; (try with_reducible rfl)
 (try simp only [cq])
 refine tkY 5 (some 35) ?_ ?_ ?_
 rotate_left
 · intro w hS0; (try dsimp only at hS0); obtain ⟨kl, ka, kh, _, _⟩ := hS0; obtain ⟨l0, l1, l2, l3, l4, l5, l6, l7⟩ := kl.c8; obtain ⟨a0, a1, a2, a3⟩ := ka.c4; obtain ⟨h0, h1, h2, h3⟩ := kh.c4;go_simp; (try with_reducible rfl)
 (try simp only [cq])
 refine tkY 6 (some 36) ?_ ?_ ?_
 rotate_left
 · intro w _; go_simp; (try with_reducible rfl)
 (try simp only [cq])
 refine wpAnyH_ready (rs := [3, 8, 9]) (by kernel_rfl) (by simp) ?_
 refine arc (some 33) (fun K hK => ?_) ?_
 {
 go_simp
 (refine (K1.out _).mono ?_; rintro e w' ⟨rfl, hb⟩)
 refine hK.out _ _ ?_ ?_
 · (exact ⟨hH.1.call hb, hH.2.1.call hb, hH.2.2.1.call hb, hH.2.2.2.1.call hb, bwS hH.2.2.2.2 (Nat.le_refl _) hb⟩)
 (try clear hH); (try clear hb)
 intro hH
 clear hK K
 (try simp only [cq])
 refine wpAnyH_ready (rs := [7, 8, 9]) (by kernel_rfl) (by simp) ?_
 refine arc (some 37) (fun K hK => ?_) ?_
 {
 go_simp
 (refine (K2.out _).mono ?_; rintro e w' ⟨rfl, hb⟩)
 refine hK.out _ _ ?_ ?_
 · (exact ⟨hH.1.call hb, hH.2.1.call hb, hH.2.2.1.call hb, hH.2.2.2.1.call hb, bwS hH.2.2.2.2 (Nat.le_refl _) hb⟩)
 (try clear hH); (try clear hb)
 intro hH
 clear hK K
 (try simp only [cq])
 refine wpAnyH_ready (rs := [8, 9]) (by kernel_rfl) (by simp) ?_
 refine arc (some 13) (fun K hK => ?_) ?_
 {
 (have hNbA1 := hH.2.2.2.1.lt; (try simp only [World.drew] at hNbA1))
 go_simp
 first | refine oA hK ?_ (fun hH hA => ?_) | refine oD hK ?_ (fun hH hA => ?_)
 · exact ⟨hH.1.alloc _, hH.2.1.alloc _, hH.2.2.1.alloc _, hH.2.2.2.1.alloc _, bwA hH.2.2.2.2 (Nat.le_refl _) _⟩
 clear hK K
 (try simp only [cq])
 obtain ⟨bA, hbA⟩ : ∃ b, Blk.num hA = b := ⟨_, rfl⟩
 obtain ⟨W, hW⟩ : ∃ V, Blk.wld hA = V := ⟨_, rfl⟩
 simp only [Blk.num] at hbA
 simp only [Blk.wld] at hW
 rw [hW] at hH hA ⊢
 rw [hbA] at hA ⊢
 replace hNbA1 : w.heap.size + 1 + 1 + 1 < bA := (by rw [← hbA]; exact hNbA1)
 clear hW hbA
 have hAbA := hA
 clear hA
 exact X2_0 bA W ⟨hH, hAbA, hNbA1⟩
 }
 refine arc (some 14) (fun K hK => ?_) ?_
 {
 (have hNbE1 := hH.2.2.2.1.lt; (try simp only [World.drew] at hNbE1))
 go_simp
 first | refine oA hK ?_ (fun hH hA => ?_) | refine oD hK ?_ (fun hH hA => ?_)
 · exact ⟨hH.1.alloc _, hH.2.1.alloc _, hH.2.2.1.alloc _, hH.2.2.2.1.alloc _, bwA hH.2.2.2.2 (Nat.le_refl _) _⟩
 clear hK K
 (try simp only [cq])
 obtain ⟨bE, hbA⟩ : ∃ b, Blk.num hA = b := ⟨_, rfl⟩
 obtain ⟨W, hW⟩ : ∃ V, Blk.wld hA = V := ⟨_, rfl⟩
 simp only [Blk.num] at hbA
 simp only [Blk.wld] at hW
 rw [hW] at hH hA ⊢
 rw [hbA] at hA ⊢
 replace hNbE1 : w.heap.size + 1 + 1 + 1 < bE := (by rw [← hbA]; exact hNbE1)
 clear hW hbA
 have hAbE := hA
 clear hA
 exact X2_1 bE W ⟨hH, hAbE, hNbE1⟩
 }
 exact AllReadyH.nil
 }
 refine arc (some 13) (fun K hK => ?_) ?_
 {
 (have hNbA1 := hH.2.2.2.1.lt; (try simp only [World.drew] at hNbA1))
 go_simp
 first | refine oA hK ?_ (fun hH hA => ?_) | refine oD hK ?_ (fun hH hA => ?_)
 · exact ⟨hH.1.alloc _, hH.2.1.alloc _, hH.2.2.1.alloc _, hH.2.2.2.1.alloc _, bwA hH.2.2.2.2 (Nat.le_refl _) _⟩
 clear hK K
 (try simp only [cq])
 obtain ⟨bA, hbA⟩ : ∃ b, Blk.num hA = b := ⟨_, rfl⟩
 obtain ⟨W, hW⟩ : ∃ V, Blk.wld hA = V := ⟨_, rfl⟩
 simp only [Blk.num] at hbA
 simp only [Blk.wld] at hW
 rw [hW] at hH hA ⊢
 rw [hbA] at hA ⊢
 replace hNbA1 : w.heap.size + 1 + 1 + 1 < bA := (by rw [← hbA]; exact hNbA1)
 clear hW hbA
 have hAbA := hA
 clear hA
 exact X1_0 bA W ⟨hH, hAbA, hNbA1⟩
 }
 refine arc (some 14) (fun K hK => ?_) ?_
 {
 (have hNbE1 := hH.2.2.2.1.lt; (try simp only [World.drew] at hNbE1))
 go_simp
 first | refine oA hK ?_ (fun hH hA => ?_) | refine oD hK ?_ (fun hH hA => ?_)
 · exact ⟨hH.1.alloc _, hH.2.1.alloc _, hH.2.2.1.alloc _, hH.2.2.2.1.alloc _, bwA hH.2.2.2.2 (Nat.le_refl _) _⟩
 clear hK K
 (try simp only [cq])
 obtain ⟨bE, hbA⟩ : ∃ b, Blk.num hA = b := ⟨_, rfl⟩
 obtain ⟨W, hW⟩ : ∃ V, Blk.wld hA = V := ⟨_, rfl⟩
 simp only [Blk.num] at hbA
 simp only [Blk.wld] at hW
 rw [hW] at hH hA ⊢
 rw [hbA] at hA ⊢
 replace hNbE1 : w.heap.size + 1 + 1 + 1 < bE := (by rw [← hbA]; exact hNbE1)
 clear hW hbA
 have hAbE := hA
 clear hA
 exact X1_1 bE W ⟨hH, hAbE, hNbE1⟩
 }
 exact AllReadyH.nil
 }
 refine arc (some 13) (fun K hK => ?_) ?_
 {
 (have hNbA1 := hH.2.2.2.1.lt; (try simp only [World.drew] at hNbA1))
 go_simp
 first | refine oA hK ?_ (fun hH hA => ?_) | refine oD hK ?_ (fun hH hA => ?_)
 · exact ⟨hH.1.alloc _, hH.2.1.alloc _, hH.2.2.1.alloc _, hH.2.2.2.1.alloc _, bwA hH.2.2.2.2 (Nat.le_refl _) _⟩
 clear hK K
 (try simp only [cq])
 obtain ⟨bA, hbA⟩ : ∃ b, Blk.num hA = b := ⟨_, rfl⟩
 obtain ⟨W, hW⟩ : ∃ V, Blk.wld hA = V := ⟨_, rfl⟩
 simp only [Blk.num] at hbA
 simp only [Blk.wld] at hW
 rw [hW] at hH hA ⊢
 rw [hbA] at hA ⊢
 replace hNbA1 : w.heap.size + 1 + 1 + 1 < bA := (by rw [← hbA]; exact hNbA1)
 clear hW hbA
 have hAbA := hA
 clear hA
 exact X0_0 bA W ⟨hH, hAbA, hNbA1⟩
 }
 refine arc (some 14) (fun K hK => ?_) ?_
 {
 (have hNbE1 := hH.2.2.2.1.lt; (try simp only [World.drew] at hNbE1))
 go_simp
 first | refine oA hK ?_ (fun hH hA => ?_) | refine oD hK ?_ (fun hH hA => ?_)
 · exact ⟨hH.1.alloc _, hH.2.1.alloc _, hH.2.2.1.alloc _, hH.2.2.2.1.alloc _, bwA hH.2.2.2.2 (Nat.le_refl _) _⟩
 clear hK K
 (try simp only [cq])
 obtain ⟨bE, hbA⟩ : ∃ b, Blk.num hA = b := ⟨_, rfl⟩
 obtain ⟨W, hW⟩ : ∃ V, Blk.wld hA = V := ⟨_, rfl⟩
 simp only [Blk.num] at hbA
 simp only [Blk.wld] at hW
 rw [hW] at hH hA ⊢
 rw [hbA] at hA ⊢
 replace hNbE1 : w.heap.size + 1 + 1 + 1 < bE := (by rw [← hbA]; exact hNbE1)
 clear hW hbA
 have hAbE := hA
 clear hA
 exact X0_1 bE W ⟨hH, hAbE, hNbE1⟩
 }
 exact AllReadyH.nil
 }
 {
 intro bE W hall
 obtain ⟨hH, hAbE, hNbE1⟩ := hall
 (try dsimp only at hH)
 refine wpAnyH_ready (rs := [3, 8]) (by kernel_rfl) (by simp) ?_
 refine arc (some 33) (fun K hK => ?_) ?_
 {
 go_simp
 (refine (K1.out _).mono ?_; rintro e w' ⟨rfl, hb⟩)
 (replace hAbE := hAbE.call hb)
 refine hK.out _ _ ?_ ?_
 · (exact ⟨hH.1.call hb, hH.2.1.call hb, hH.2.2.1.call hb, hH.2.2.2.1.call hb, bwS hH.2.2.2.2 (Nat.le_refl _) hb⟩)
 (try clear hH); (try clear hb)
 intro hH
 clear hK K
 (try simp only [cq])
 exact X1_1 bE w' ⟨hH, hAbE, hNbE1⟩
 }
 refine arc (some 13) (fun K hK => ?_) ?_
 {
 (have hNbA1 := hH.2.2.2.1.lt; (try simp only [World.drew] at hNbA1))
 have zzbE := hAbE.lt
 go_simp
 first | refine oA hK ?_ (fun hH hA => ?_) | refine oD hK ?_ (fun hH hA => ?_)
 · exact ⟨hH.1.alloc _, hH.2.1.alloc _, hH.2.2.1.alloc _, hH.2.2.2.1.alloc _, bwA hH.2.2.2.2 (Nat.le_refl _) _⟩
 clear hK K
 (try simp only [cq])
 obtain ⟨bA, hbA⟩ : ∃ b, Blk.num hA = b := ⟨_, rfl⟩
 obtain ⟨W, hW⟩ : ∃ V, Blk.wld hA = V := ⟨_, rfl⟩
 simp only [Blk.num] at hbA
 simp only [Blk.wld] at hW
 first | replace hAbE := awB hW hAbE | replace hAbE := awD hW hAbE
 rw [hW] at hH hA ⊢
 rw [hbA] at hA ⊢
 replace hNbA1 : w.heap.size + 1 + 1 + 1 < bA := (by rw [← hbA]; exact hNbA1)
 have hPbAbE : bA ≠ bE := (by (try simp only [World.drew] at zzbE hbA); omega)
 clear hW hbA zzbE
 have hAbA := hA
 clear hA
 exact X0_01 bA bE W ⟨hH, hAbA, hAbE, hNbA1, hNbE1, hPbAbE⟩
 }
 exact AllReadyH.nil
 }
 }
 {
 intro bA W hall
 obtain ⟨hH, hAbA, hNbA1⟩ := hall
 (try dsimp only at hH)
 refine wpAnyH_ready (rs := [3, 9]) (by kernel_rfl) (by simp) ?_
 refine arc (some 33) (fun K hK => ?_) ?_
 {
 go_simp
 (refine (K1.out _).mono ?_; rintro e w' ⟨rfl, hb⟩)
 (replace hAbA := hAbA.call hb)
 refine hK.out _ _ ?_ ?_
 · (exact ⟨hH.1.call hb, hH.2.1.call hb, hH.2.2.1.call hb, hH.2.2.2.1.call hb, bwS hH.2.2.2.2 (Nat.le_refl _) hb⟩)
 (try clear hH); (try clear hb)
 intro hH
 clear hK K
 (try simp only [cq])
 exact X1_0 bA w' ⟨hH, hAbA, hNbA1⟩
 }
 refine arc (some 14) (fun K hK => ?_) ?_
 {
 (have hNbE1 := hH.2.2.2.1.lt; (try simp only [World.drew] at hNbE1))
 have zzbA := hAbA.lt
 go_simp
 first | refine oA hK ?_ (fun hH hA => ?_) | refine oD hK ?_ (fun hH hA => ?_)
 · exact ⟨hH.1.alloc _, hH.2.1.alloc _, hH.2.2.1.alloc _, hH.2.2.2.1.alloc _, bwA hH.2.2.2.2 (Nat.le_refl _) _⟩
 clear hK K
 (try simp only [cq])
 obtain ⟨bE, hbA⟩ : ∃ b, Blk.num hA = b := ⟨_, rfl⟩
 obtain ⟨W, hW⟩ : ∃ V, Blk.wld hA = V := ⟨_, rfl⟩
 simp only [Blk.num] at hbA
 simp only [Blk.wld] at hW
 first | replace hAbA := awB hW hAbA | replace hAbA := awD hW hAbA
 rw [hW] at hH hA ⊢
 rw [hbA] at hA ⊢
 replace hNbE1 : w.heap.size + 1 + 1 + 1 < bE := (by rw [← hbA]; exact hNbE1)
 have hPbAbE : bA ≠ bE := (by (try simp only [World.drew] at zzbA hbA); omega)
 clear hW hbA zzbA
 have hAbE := hA
 clear hA
 exact X0_01 bA bE W ⟨hH, hAbA, hAbE, hNbA1, hNbE1, hPbAbE⟩
 }
 exact AllReadyH.nil
 }
 }
 {
 intro bE W hall
 obtain ⟨hH, hAbE, hNbE1⟩ := hall
 (try dsimp only at hH)
 refine wpAnyH_ready (rs := [7, 8]) (by kernel_rfl) (by simp) ?_
 refine arc (some 37) (fun K hK => ?_) ?_
 {
 go_simp
 (refine (K2.out _).mono ?_; rintro e w' ⟨rfl, hb⟩)
 (replace hAbE := hAbE.call hb)
 refine hK.out _ _ ?_ ?_
 · (exact ⟨hH.1.call hb, hH.2.1.call hb, hH.2.2.1.call hb, hH.2.2.2.1.call hb, bwS hH.2.2.2.2 (Nat.le_refl _) hb⟩)
 (try clear hH); (try clear hb)
 intro hH
 clear hK K
 (try simp only [cq])
 exact X2_1 bE w' ⟨hH, hAbE, hNbE1⟩
 }
 refine arc (some 13) (fun K hK => ?_) ?_
 {
 (have hNbA1 := hH.2.2.2.1.lt; (try simp only [World.drew] at hNbA1))
 have zzbE := hAbE.lt
 go_simp
 first | refine oA hK ?_ (fun hH hA => ?_) | refine oD hK ?_ (fun hH hA => ?_)
 · exact ⟨hH.1.alloc _, hH.2.1.alloc _, hH.2.2.1.alloc _, hH.2.2.2.1.alloc _, bwA hH.2.2.2.2 (Nat.le_refl _) _⟩
 clear hK K
 (try simp only [cq])
 obtain ⟨bA, hbA⟩ : ∃ b, Blk.num hA = b := ⟨_, rfl⟩
 obtain ⟨W, hW⟩ : ∃ V, Blk.wld hA = V := ⟨_, rfl⟩
 simp only [Blk.num] at hbA
 simp only [Blk.wld] at hW
 first | replace hAbE := awB hW hAbE | replace hAbE := awD hW hAbE
 rw [hW] at hH hA ⊢
 rw [hbA] at hA ⊢
 replace hNbA1 : w.heap.size + 1 + 1 + 1 < bA := (by rw [← hbA]; exact hNbA1)
 have hPbAbE : bA ≠ bE := (by (try simp only [World.drew] at zzbE hbA); omega)
 clear hW hbA zzbE
 have hAbA := hA
 clear hA
 exact X1_01 bA bE W ⟨hH, hAbA, hAbE, hNbA1, hNbE1, hPbAbE⟩
 }
 exact AllReadyH.nil
 }
 }
 {
 intro bA W hall
 obtain ⟨hH, hAbA, hNbA1⟩ := hall
 (try dsimp only at hH)
 refine wpAnyH_ready (rs := [7, 9]) (by kernel_rfl) (by simp) ?_
 refine arc (some 37) (fun K hK => ?_) ?_
 {
 go_simp
 (refine (K2.out _).mono ?_; rintro e w' ⟨rfl, hb⟩)
 (replace hAbA := hAbA.call hb)
 refine hK.out _ _ ?_ ?_
 · (exact ⟨hH.1.call hb, hH.2.1.call hb, hH.2.2.1.call hb, hH.2.2.2.1.call hb, bwS hH.2.2.2.2 (Nat.le_refl _) hb⟩)
 (try clear hH); (try clear hb)
 intro hH
 clear hK K
 (try simp only [cq])
 exact X2_0 bA w' ⟨hH, hAbA, hNbA1⟩
 }
 refine arc (some 14) (fun K hK => ?_) ?_
 {
 (have hNbE1 := hH.2.2.2.1.lt; (try simp only [World.drew] at hNbE1))
 have zzbA := hAbA.lt
 go_simp
 first | refine oA hK ?_ (fun hH hA => ?_) | refine oD hK ?_ (fun hH hA => ?_)
 · exact ⟨hH.1.alloc _, hH.2.1.alloc _, hH.2.2.1.alloc _, hH.2.2.2.1.alloc _, bwA hH.2.2.2.2 (Nat.le_refl _) _⟩
 clear hK K
 (try simp only [cq])
 obtain ⟨bE, hbA⟩ : ∃ b, Blk.num hA = b := ⟨_, rfl⟩
 obtain ⟨W, hW⟩ : ∃ V, Blk.wld hA = V := ⟨_, rfl⟩
 simp only [Blk.num] at hbA
 simp only [Blk.wld] at hW
 first | replace hAbA := awB hW hAbA | replace hAbA := awD hW hAbA
 rw [hW] at hH hA ⊢
 rw [hbA] at hA ⊢
 replace hNbE1 : w.heap.size + 1 + 1 + 1 < bE := (by rw [← hbA]; exact hNbE1)
 have hPbAbE : bA ≠ bE := (by (try simp only [World.drew] at zzbA hbA); omega)
 clear hW hbA zzbA
 have hAbE := hA
 clear hA
 exact X1_01 bA bE W ⟨hH, hAbA, hAbE, hNbA1, hNbE1, hPbAbE⟩
 }
 exact AllReadyH.nil
 }
 }
 {
 intro bA bE W hall
 obtain ⟨hH, hAbA, hAbE, hNbA1, hNbE1, hPbAbE⟩ := hall
 (try dsimp only at hH)
 refine wpAnyH_ready (rs := [3]) (by kernel_rfl) (by simp) ?_
 refine arc1 (some 33) fun K hK => ?_
 go_simp
 (refine (K1.out _).mono ?_; rintro e w' ⟨rfl, hb⟩)
 (replace hAbA := hAbA.call hb)
 (replace hAbE := hAbE.call hb)
 refine hK.out _ _ ?_ ?_
 · (exact ⟨hH.1.call hb, hH.2.1.call hb, hH.2.2.1.call hb, hH.2.2.2.1.call hb, bwS hH.2.2.2.2 (Nat.le_refl _) hb⟩)
 (try clear hH); (try clear hb)
 intro hH
 clear hK K
 (try simp only [cq])
 exact X1_01 bA bE w' ⟨hH, hAbA, hAbE, hNbA1, hNbE1, hPbAbE⟩
 }
 }
 {
 intro bE W hall
 obtain ⟨hH, hAbE, hNbE1⟩ := hall
 (try dsimp only at hH)
 refine wpAnyH_ready (rs := [8]) (by kernel_rfl) (by simp) ?_
 refine arc1 (some 13) fun K hK => ?_
 (have hNbA1 := hH.2.2.2.1.lt; (try simp only [World.drew] at hNbA1))
 have zzbE := hAbE.lt
 go_simp
 first | refine oA hK ?_ (fun hH hA => ?_) | refine oD hK ?_ (fun hH hA => ?_)
 · exact ⟨hH.1.alloc _, hH.2.1.alloc _, hH.2.2.1.alloc _, hH.2.2.2.1.alloc _, bwA hH.2.2.2.2 (Nat.le_refl _) _⟩
 clear hK K
 (try simp only [cq])
 obtain ⟨bA, hbA⟩ : ∃ b, Blk.num hA = b := ⟨_, rfl⟩
 obtain ⟨W, hW⟩ : ∃ V, Blk.wld hA = V := ⟨_, rfl⟩
 simp only [Blk.num] at hbA
 simp only [Blk.wld] at hW
 first | replace hAbE := awB hW hAbE | replace hAbE := awD hW hAbE
 rw [hW] at hH hA ⊢
 rw [hbA] at hA ⊢
 replace hNbA1 : w.heap.size + 1 + 1 + 1 < bA := (by rw [← hbA]; exact hNbA1)
 have hPbAbE : bA ≠ bE := (by (try simp only [World.drew] at zzbE hbA); omega)
 clear hW hbA zzbE
 have hAbA := hA
 clear hA
 exact X2_01 bA bE W ⟨hH, hAbA, hAbE, hNbA1, hNbE1, hPbAbE⟩
 }
 }
 {
 intro bA W hall
 obtain ⟨hH, hAbA, hNbA1⟩ := hall
 (try dsimp only at hH)
 refine wpAnyH_ready (rs := [9]) (by kernel_rfl) (by simp) ?_
 refine arc1 (some 14) fun K hK => ?_
 (have hNbE1 := hH.2.2.2.1.lt; (try simp only [World.drew] at hNbE1))
 have zzbA := hAbA.lt
 go_simp
 first | refine oA hK ?_ (fun hH hA => ?_) | refine oD hK ?_ (fun hH hA => ?_)
 · exact ⟨hH.1.alloc _, hH.2.1.alloc _, hH.2.2.1.alloc _, hH.2.2.2.1.alloc _, bwA hH.2.2.2.2 (Nat.le_refl _) _⟩
 clear hK K
 (try simp only [cq])
 obtain ⟨bE, hbA⟩ : ∃ b, Blk.num hA = b := ⟨_, rfl⟩
 obtain ⟨W, hW⟩ : ∃ V, Blk.wld hA = V := ⟨_, rfl⟩
 simp only [Blk.num] at hbA
 simp only [Blk.wld] at hW
 first | replace hAbA := awB hW hAbA | replace hAbA := awD hW hAbA
 rw [hW] at hH hA ⊢
 rw [hbA] at hA ⊢
 replace hNbE1 : w.heap.size + 1 + 1 + 1 < bE := (by rw [← hbA]; exact hNbE1)
 have hPbAbE : bA ≠ bE := (by (try simp only [World.drew] at zzbA hbA); omega)
 clear hW hbA zzbA
 have hAbE := hA
 clear hA
 exact X2_01 bA bE W ⟨hH, hAbA, hAbE, hNbA1, hNbE1, hPbAbE⟩
 }
 }
 {
 intro bA bE W hall
 obtain ⟨hH, hAbA, hAbE, hNbA1, hNbE1, hPbAbE⟩ := hall
 (try dsimp only at hH)
 refine wpAnyH_ready (rs := [7]) (by kernel_rfl) (by simp) ?_
 refine arc1 (some 37) fun K hK => ?_
 go_simp
 (refine (K2.out _).mono ?_; rintro e w' ⟨rfl, hb⟩)
 (replace hAbA := hAbA.call hb)
 (replace hAbE := hAbE.call hb)
 refine hK.out _ _ ?_ ?_
 · (exact ⟨hH.1.call hb, hH.2.1.call hb, hH.2.2.1.call hb, hH.2.2.2.1.call hb, bwS hH.2.2.2.2 (Nat.le_refl _) hb⟩)
 (try clear hH); (try clear hb)
 intro hH
 clear hK K
 (try simp only [cq])
 exact X2_01 bA bE w' ⟨hH, hAbA, hAbE, hNbA1, hNbE1, hPbAbE⟩
 }
 }
 {
 intro bA bE W hall
 obtain ⟨hH, hAbA, hAbE, hNbA1, hNbE1, hPbAbE⟩ := hall
 (try dsimp only at hH)
 refine wpAnyH_ready (rs := [10]) (by kernel_rfl) (by simp) ?_
 refine arc1 none fun K hK => ?_
 obtain ⟨r0, r1, r2, r3⟩ := hAbA.c4
 have fr0 := hAbA.free 0
 have fr1 := hAbA.free 1
 have fr2 := hAbA.free 2
 have fr3 := hAbA.free 3
 have zR := hAbA.lt
 replace hAbE := hAbE.other4 (c := bA) (by omega) (.int .i64 k10) (.int .i64 y.w0) (.int .i64 k12) (.int .i64 x.s0)
 replace hAbA := hAbA.set4 (.int .i64 k10) (.int .i64 y.w0) (.int .i64 k12) (.int .i64 x.s0)
 go_simp
 refine hK.out _ _ ?_ ?_
 · with_reducible exact ⟨hH.1.other4 (by omega) _ _ _ _, hH.2.1.other4 (by omega) _ _ _ _, hH.2.2.1.other4 (by omega) _ _ _ _, hH.2.2.2.1.other4 (by omega) _ _ _ _, below_set4 hH.2.2.2.2 (by omega) _ _ _ _⟩
 (try clear hH); (try clear hb)
 intro hH
 clear r0 r1 r2 r3 fr0 fr1 fr2 fr3 zR
 clear hK K
 (try simp only [cq])
 refine wpAnyH_ready (rs := [11]) (by kernel_rfl) (by simp) ?_
 refine arc1 none fun K hK => ?_
 obtain ⟨r0, r1, r2, r3⟩ := hAbE.c4
 have fr0 := hAbE.free 0
 have fr1 := hAbE.free 1
 have fr2 := hAbE.free 2
 have fr3 := hAbE.free 3
 have zR := hAbE.lt
 replace hAbA := hAbA.other4 (c := bE) (by omega) (.int .i64 k20) (.int .i64 y.w1) (.int .i64 k22) (.int .i64 x.s1)
 replace hAbE := hAbE.set4 (.int .i64 k20) (.int .i64 y.w1) (.int .i64 k22) (.int .i64 x.s1)
 go_simp
 refine hK.out _ _ ?_ ?_
 · with_reducible exact ⟨hH.1.other4 (by omega) _ _ _ _, hH.2.1.other4 (by omega) _ _ _ _, hH.2.2.1.other4 (by omega) _ _ _ _, hH.2.2.2.1.other4 (by omega) _ _ _ _, below_set4 hH.2.2.2.2 (by omega) _ _ _ _⟩
 (try clear hH); (try clear hb)
 intro hH
 clear r0 r1 r2 r3 fr0 fr1 fr2 fr3 zR
 clear hK K
 (try simp only [cq])
 refine wpAnyH_done (by kernel_rfl) ?_ _
 (try dsimp only [Act.put])
 (try simp only [cq])
 go_wp2_with fail
 go_meet
 exact ⟨bA, bE, rfl, rfl, hAbA, hAbE, hNbA1, hNbE1, hH.1, hH.2.1, hH.2.2.1, hH.2.2.2.1, hH.2.2.2.2⟩
 } )
    case rest =>
      obtain ⟨bC, bE, rfl, rfl, mC, mE, nC, nE, jL, jA, jH, jR, jB⟩ := hcut
      clear K1 K2
      go_upto_region 3 with fail
      go_cut [15] (fun s15 wx => ∃ bW : Nat, s15 = .pointer (some ⟨bW, 0, none⟩) ∧ Blk wx bW #[.int .i64 y.q0, .int .i64 y.q1] 24 ∧ Blk wx bC #[.int .i64 k10, .int .i64 y.w0, .int .i64 k12, .int .i64 x.s0] 117 ∧ Blk wx bE #[.int .i64 k20, .int .i64 y.w1, .int .i64 k22, .int .i64 x.s1] 117 ∧ Blk wx (w.heap.size) #[.int .i64 l.gr, .int .i64 l.la, .slice va l.n vcap, .int .i64 l.m0, .int .i64 l.m1, .int .i64 l.so, .int .i64 l.h0, .int .i64 l.h1] 26 ∧ Blk wx (w.heap.size + 1) #[.int .i64 x.b0, .int .i64 x.w0, .int .i64 x.q0, .int .i64 x.s0] 117 ∧ Blk wx (w.heap.size + 1 + 1) #[.int .i64 x.b1, .int .i64 x.w1, .int .i64 x.q1, .int .i64 x.s1] 117 ∧ Eight wx (w.heap.size + 1 + 1 + 1) 28 ∧ Below w.heap.size w wx)
      case first =>
        (
 let S9 : World → Prop := (fun w' => Blk w' (w.heap.size) #[.int .i64 l.gr, .int .i64 l.la, .slice va l.n vcap, .int .i64 l.m0, .int .i64 l.m1, .int .i64 l.so, .int .i64 l.h0, .int .i64 l.h1] 26 ∧ Blk w' (w.heap.size + 1) #[.int .i64 x.b0, .int .i64 x.w0, .int .i64 x.q0, .int .i64 x.s0] 117 ∧ Blk w' (w.heap.size + 1 + 1) #[.int .i64 x.b1, .int .i64 x.w1, .int .i64 x.q1, .int .i64 x.s1] 117 ∧ Eight w' (w.heap.size + 1 + 1 + 1) 28 ∧ Blk w' bC #[.int .i64 k10, .int .i64 y.w0, .int .i64 k12, .int .i64 x.s0] 117 ∧ Blk w' bE #[.int .i64 k20, .int .i64 y.w1, .int .i64 k22, .int .i64 x.s1] 117 ∧ Below w.heap.size w w')
 refine wp_region_held_drew (S := S9) (by kernel_rfl) ?_ (fun hH => ?_)
 · (try dsimp only); (exact ⟨jL.drew, jA.drew, jH.drew, jR, mC.drew, mE.drew, jB.drew⟩)
 apply share0 (fun (bA : Nat) (W : World) => S9 W ∧ Blk W bA #[.int .i64 0, .int .i64 0] 24 ∧ (w.heap.size + 1 + 1 + 1 < bA) ∧ (bC < bA) ∧ (bE < bA))
 {
 intro X2
 apply share0 (fun (bA : Nat) (W : World) => S9 W ∧ Blk W bA #[.int .i64 0, .int .i64 0] 24 ∧ (w.heap.size + 1 + 1 + 1 < bA) ∧ (bC < bA) ∧ (bE < bA))
 {
 intro X1
 apply share0 (fun (bA : Nat) (W : World) => S9 W ∧ Blk W bA #[.int .i64 0, .int .i64 0] 24 ∧ (w.heap.size + 1 + 1 + 1 < bA) ∧ (bC < bA) ∧ (bE < bA))
 {
 intro X0
 refine tkY 0 (some 38) ?_ ?_ ?_
 rotate_left
 · intro w hS0; (try dsimp only at hS0); obtain ⟨kl, ka, kh, _, _, _, _⟩ := hS0; obtain ⟨l0, l1, l2, l3, l4, l5, l6, l7⟩ := kl.c8; obtain ⟨a0, a1, a2, a3⟩ := ka.c4; obtain ⟨h0, h1, h2, h3⟩ := kh.c4;go_simp; (try with_reducible rfl)
 (try simp only [cq])
 refine tkY 1 (some 39) ?_ ?_ ?_
 rotate_left
 · intro w hS0; (try dsimp only at hS0); obtain ⟨kl, ka, kh, _, _, _, _⟩ := hS0; obtain ⟨l0, l1, l2, l3, l4, l5, l6, l7⟩ := kl.c8; obtain ⟨a0, a1, a2, a3⟩ := ka.c4; obtain ⟨h0, h1, h2, h3⟩ := kh.c4;go_simp; (try with_reducible rfl)
 (try simp only [cq])
 refine tkY 2 (some 40) ?_ ?_ ?_
 rotate_left
 · intro w _; go_simp; (try with_reducible rfl)
 (try simp only [cq])
 refine tkY 5 (some 43) ?_ ?_ ?_
 rotate_left
 · intro w hS0; (try dsimp only at hS0); obtain ⟨kl, ka, kh, _, _, _, _⟩ := hS0; obtain ⟨l0, l1, l2, l3, l4, l5, l6, l7⟩ := kl.c8; obtain ⟨a0, a1, a2, a3⟩ := ka.c4; obtain ⟨h0, h1, h2, h3⟩ := kh.c4;go_simp; (try with_reducible rfl)
 (try simp only [cq])
 refine tkY 6 (some 44) ?_ ?_ ?_
 rotate_left
 · intro w hS0; (try dsimp only at hS0); obtain ⟨kl, ka, kh, _, _, _, _⟩ := hS0; obtain ⟨l0, l1, l2, l3, l4, l5, l6, l7⟩ := kl.c8; obtain ⟨a0, a1, a2, a3⟩ := ka.c4; obtain ⟨h0, h1, h2, h3⟩ := kh.c4;go_simp; (try with_reducible rfl)
 (try simp only [cq])
 refine tkY 7 (some 45) ?_ ?_ ?_
 rotate_left
 · intro w _; go_simp; (try with_reducible rfl)
 (try simp only [cq])
 refine wpAnyH_ready (rs := [3, 11]) (by kernel_rfl) (by simp) ?_
 refine arc (some 41) (fun K hK => ?_) ?_
 {
 go_simp
 (refine (K3.out _).mono ?_; rintro e w' ⟨rfl, hb⟩; (try replace hA := hA.call hb))
 refine hK.out _ _ ?_ ?_
 · (exact ⟨hH.1.call hb, hH.2.1.call hb, hH.2.2.1.call hb, hH.2.2.2.1.call hb, hH.2.2.2.2.1.call hb, hH.2.2.2.2.2.1.call hb, bwS hH.2.2.2.2.2.2 (Nat.le_refl _) hb⟩)
 (try clear hH); (try clear hb)
 intro hH
 clear hK K
 (try simp only [cq])
 refine tkY 4 (some 42) ?_ ?_ ?_
 rotate_left
 · intro w _; go_simp; (try with_reducible rfl)
 (try simp only [cq])
 refine wpAnyH_ready (rs := [8, 11]) (by kernel_rfl) (by simp) ?_
 refine arc (some 46) (fun K hK => ?_) ?_
 {
 go_simp
 (refine (K4.out _).mono ?_; rintro e w' ⟨rfl, hb⟩; (try replace hA := hA.call hb))
 refine hK.out _ _ ?_ ?_
 · (exact ⟨hH.1.call hb, hH.2.1.call hb, hH.2.2.1.call hb, hH.2.2.2.1.call hb, hH.2.2.2.2.1.call hb, hH.2.2.2.2.2.1.call hb, bwS hH.2.2.2.2.2.2 (Nat.le_refl _) hb⟩)
 (try clear hH); (try clear hb)
 intro hH
 clear hK K
 (try simp only [cq])
 refine tkY 9 (some 47) ?_ ?_ ?_
 rotate_left
 · intro w _; go_simp; (try with_reducible rfl)
 (try simp only [cq])
 refine tkY 10 (some 48) ?_ ?_ ?_
 rotate_left
 · intro w _; go_simp; (try with_reducible rfl)
 (try simp only [cq])
 refine wpAnyH_ready (rs := [11]) (by kernel_rfl) (by simp) ?_
 refine arc1 (some 15) fun K hK => ?_
 (have hN1 := hH.2.2.2.1.lt; have hN2 := hH.2.2.2.2.1.lt; have hN3 := hH.2.2.2.2.2.1.lt; (try simp only [World.drew] at hN1 hN2 hN3))
 go_simp
 first | refine oA hK ?_ (fun hH hA => ?_) | refine oD hK ?_ (fun hH hA => ?_)
 · exact ⟨hH.1.alloc _, hH.2.1.alloc _, hH.2.2.1.alloc _, hH.2.2.2.1.alloc _, hH.2.2.2.2.1.alloc _, hH.2.2.2.2.2.1.alloc _, bwA hH.2.2.2.2.2.2 (Nat.le_refl _) _⟩
 clear hK K
 (try simp only [cq])
 obtain ⟨bA, hbA⟩ : ∃ b, Blk.num hA = b := ⟨_, rfl⟩
 obtain ⟨W, hW⟩ : ∃ V, Blk.wld hA = V := ⟨_, rfl⟩
 simp only [Blk.num] at hbA
 simp only [Blk.wld] at hW
 rw [hW] at hH hA ⊢
 rw [hbA] at hA ⊢
 replace hN1 : w.heap.size + 1 + 1 + 1 < bA := (by rw [← hbA]; exact hN1)
 replace hN2 : bC < bA := (by rw [← hbA]; exact hN2)
 replace hN3 : bE < bA := (by rw [← hbA]; exact hN3)
 clear hW hbA
 exact X2  bA W ⟨hH, hA, hN1, hN2, hN3⟩
 }
 refine arc (some 15) (fun K hK => ?_) ?_
 {
 (have hN1 := hH.2.2.2.1.lt; have hN2 := hH.2.2.2.2.1.lt; have hN3 := hH.2.2.2.2.2.1.lt; (try simp only [World.drew] at hN1 hN2 hN3))
 go_simp
 first | refine oA hK ?_ (fun hH hA => ?_) | refine oD hK ?_ (fun hH hA => ?_)
 · exact ⟨hH.1.alloc _, hH.2.1.alloc _, hH.2.2.1.alloc _, hH.2.2.2.1.alloc _, hH.2.2.2.2.1.alloc _, hH.2.2.2.2.2.1.alloc _, bwA hH.2.2.2.2.2.2 (Nat.le_refl _) _⟩
 clear hK K
 (try simp only [cq])
 obtain ⟨bA, hbA⟩ : ∃ b, Blk.num hA = b := ⟨_, rfl⟩
 obtain ⟨W, hW⟩ : ∃ V, Blk.wld hA = V := ⟨_, rfl⟩
 simp only [Blk.num] at hbA
 simp only [Blk.wld] at hW
 rw [hW] at hH hA ⊢
 rw [hbA] at hA ⊢
 replace hN1 : w.heap.size + 1 + 1 + 1 < bA := (by rw [← hbA]; exact hN1)
 replace hN2 : bC < bA := (by rw [← hbA]; exact hN2)
 replace hN3 : bE < bA := (by rw [← hbA]; exact hN3)
 clear hW hbA
 exact X1  bA W ⟨hH, hA, hN1, hN2, hN3⟩
 }
 exact AllReadyH.nil
 }
 refine arc (some 15) (fun K hK => ?_) ?_
 {
 (have hN1 := hH.2.2.2.1.lt; have hN2 := hH.2.2.2.2.1.lt; have hN3 := hH.2.2.2.2.2.1.lt; (try simp only [World.drew] at hN1 hN2 hN3))
 go_simp
 first | refine oA hK ?_ (fun hH hA => ?_) | refine oD hK ?_ (fun hH hA => ?_)
 · exact ⟨hH.1.alloc _, hH.2.1.alloc _, hH.2.2.1.alloc _, hH.2.2.2.1.alloc _, hH.2.2.2.2.1.alloc _, hH.2.2.2.2.2.1.alloc _, bwA hH.2.2.2.2.2.2 (Nat.le_refl _) _⟩
 clear hK K
 (try simp only [cq])
 obtain ⟨bA, hbA⟩ : ∃ b, Blk.num hA = b := ⟨_, rfl⟩
 obtain ⟨W, hW⟩ : ∃ V, Blk.wld hA = V := ⟨_, rfl⟩
 simp only [Blk.num] at hbA
 simp only [Blk.wld] at hW
 rw [hW] at hH hA ⊢
 rw [hbA] at hA ⊢
 replace hN1 : w.heap.size + 1 + 1 + 1 < bA := (by rw [← hbA]; exact hN1)
 replace hN2 : bC < bA := (by rw [← hbA]; exact hN2)
 replace hN3 : bE < bA := (by rw [← hbA]; exact hN3)
 clear hW hbA
 exact X0  bA W ⟨hH, hA, hN1, hN2, hN3⟩
 }
 exact AllReadyH.nil
 }
 {
 intro bA W hall
 obtain ⟨hH, hA, hN1, hN2, hN3⟩ := hall
 (try dsimp only at hH)
 (try clear X2)
 refine wpAnyH_ready (rs := [3]) (by kernel_rfl) (by simp) ?_
 refine arc1 (some 41) fun K hK => ?_
 go_simp
 (refine (K3.out _).mono ?_; rintro e w' ⟨rfl, hb⟩; (try replace hA := hA.call hb))
 refine hK.out _ _ ?_ ?_
 · (exact ⟨hH.1.call hb, hH.2.1.call hb, hH.2.2.1.call hb, hH.2.2.2.1.call hb, hH.2.2.2.2.1.call hb, hH.2.2.2.2.2.1.call hb, bwS hH.2.2.2.2.2.2 (Nat.le_refl _) hb⟩)
 (try clear hH); (try clear hb)
 intro hH
 clear hK K
 (try simp only [cq])
 refine tkY 4 (some 42) ?_ ?_ ?_
 rotate_left
 · intro w _; go_simp; (try with_reducible rfl)
 (try simp only [cq])
 exact X1  bA w' ⟨hH, hA, hN1, hN2, hN3⟩
 }
 }
 {
 intro bA W hall
 obtain ⟨hH, hA, hN1, hN2, hN3⟩ := hall
 (try dsimp only at hH)
 refine wpAnyH_ready (rs := [8]) (by kernel_rfl) (by simp) ?_
 refine arc1 (some 46) fun K hK => ?_
 go_simp
 (refine (K4.out _).mono ?_; rintro e w' ⟨rfl, hb⟩; (try replace hA := hA.call hb))
 refine hK.out _ _ ?_ ?_
 · (exact ⟨hH.1.call hb, hH.2.1.call hb, hH.2.2.1.call hb, hH.2.2.2.1.call hb, hH.2.2.2.2.1.call hb, hH.2.2.2.2.2.1.call hb, bwS hH.2.2.2.2.2.2 (Nat.le_refl _) hb⟩)
 (try clear hH); (try clear hb)
 intro hH
 clear hK K
 (try simp only [cq])
 refine tkY 9 (some 47) ?_ ?_ ?_
 rotate_left
 · intro w _; go_simp; (try with_reducible rfl)
 (try simp only [cq])
 refine tkY 10 (some 48) ?_ ?_ ?_
 rotate_left
 · intro w _; go_simp; (try with_reducible rfl)
 (try simp only [cq])
 exact X2  bA w' ⟨hH, hA, hN1, hN2, hN3⟩
 }
 }
 {
 intro bA W hall
 obtain ⟨hH, hA, hN1, hN2, hN3⟩ := hall
 (try dsimp only at hH)
 refine wpAnyH_ready (rs := [12]) (by kernel_rfl) (by simp) ?_
 refine arc1 none fun K hK => ?_
 obtain ⟨r0, r1⟩ := hA.c2
 have fr0 := hA.free 0
 have fr1 := hA.free 1
 have zR := hA.lt
 have HS := Lib.hid (show Blk _ _ #[.int .i64 y.q0, .int .i64 y.q1] _ from (hA.set 0 (.int .i64 y.q0)).set 1 (.int .i64 y.q1))
 go_simp
 refine hK.out _ _ ?_ ?_
 · exact ⟨hH.1.oth2 (by omega) _ _, hH.2.1.oth2 (by omega) _ _, hH.2.2.1.oth2 (by omega) _ _, hH.2.2.2.1.oth2 (by omega) _ _, hH.2.2.2.2.1.oth2 (by omega) _ _, hH.2.2.2.2.2.1.oth2 (by omega) _ _, below_set2 hH.2.2.2.2.2.2 (by omega) _ _⟩
 (try clear hH); (try clear hb)
 intro hH
 clear hK K
 (try simp only [cq])
 refine wpAnyH_done (by kernel_rfl) ?_ _
 (try dsimp only [Act.put])
 (try simp only [cq])
 clear hA r0 r1 fr0 fr1 zR
 go_wp2_with fail
 go_meet
 exact ⟨bA, rfl, HS.out, hH.2.2.2.2.1, hH.2.2.2.2.2.1, hH.1, hH.2.1, hH.2.2.1, hH.2.2.2.1, hH.2.2.2.2.2.2⟩
 } )
      case rest =>
        obtain ⟨bW, rfl, mW, mC, mE, jL, jA, jH, jR, jB⟩ := hcut
        clear K3 K4
        obtain ⟨l0, l1, l2, l3, l4, l5, l6, l7⟩ := jL.c8
        obtain ⟨a0, a1, a2, a3⟩ := jA.c4
        obtain ⟨h0, h1, h2, h3⟩ := jH.c4
        have zL := jL.lt
        have zA := jA.lt
        have zH := jH.lt
        go_wp2_with fail
        refine (K5.out _).mono ?_
        rintro e w5 ⟨rfl, hb⟩
        clear l0 l1 l2 l3 l4 l5 l6 l7 a0 a1 a2 a3 h0 h1 h2 h3 zL zA zH K5
        replace mW := mW.call hb
        replace mC := mC.call hb
        replace mE := mE.call hb
        replace jL := jL.call hb
        replace jA := jA.call hb
        replace jH := jH.call hb
        replace jR := jR.call hb
        replace jB := bwS jB (Nat.le_refl _) hb
        clear hb
        have mF := Blk.new w5 #[.int .i64 y.b0, .int .i64 k51, .int .i64 k52, .int .i64 0] 117
        replace mW := mW.alloc (.cells #[.int .i64 y.b0, .int .i64 k51, .int .i64 k52, .int .i64 0] 117)
        replace mC := mC.alloc (.cells #[.int .i64 y.b0, .int .i64 k51, .int .i64 k52, .int .i64 0] 117)
        replace mE := mE.alloc (.cells #[.int .i64 y.b0, .int .i64 k51, .int .i64 k52, .int .i64 0] 117)
        replace jL := jL.alloc (.cells #[.int .i64 y.b0, .int .i64 k51, .int .i64 k52, .int .i64 0] 117)
        replace jA := jA.alloc (.cells #[.int .i64 y.b0, .int .i64 k51, .int .i64 k52, .int .i64 0] 117)
        replace jH := jH.alloc (.cells #[.int .i64 y.b0, .int .i64 k51, .int .i64 k52, .int .i64 0] 117)
        replace jR := jR.alloc (.cells #[.int .i64 y.b0, .int .i64 k51, .int .i64 k52, .int .i64 0] 117)
        replace jB := bwA jB (Nat.le_refl _) (.cells #[.int .i64 y.b0, .int .i64 k51, .int .i64 k52, .int .i64 0] 117)
        obtain ⟨l0, l1, l2, l3, l4, l5, l6, l7⟩ := jL.c8
        obtain ⟨a0, a1, a2, a3⟩ := jA.c4
        obtain ⟨h0, h1, h2, h3⟩ := jH.c4
        have zL := jL.lt
        have zA := jA.lt
        have zH := jH.lt
        go_wp2_with fail
        refine (K6.out _).mono ?_
        rintro e w6 ⟨rfl, hb⟩
        clear l0 l1 l2 l3 l4 l5 l6 l7 a0 a1 a2 a3 h0 h1 h2 h3 zL zA zH K6
        replace mF := mF.call hb
        replace mW := mW.call hb
        replace mC := mC.call hb
        replace mE := mE.call hb
        replace jL := jL.call hb
        replace jA := jA.call hb
        replace jH := jH.call hb
        replace jR := jR.call hb
        replace jB := bwS jB (Nat.le_refl _) hb
        clear hb
        have mG := Blk.new w6 #[.int .i64 y.b1, .int .i64 k61, .int .i64 k62, .int .i64 0] 117
        replace mF := mF.alloc (.cells #[.int .i64 y.b1, .int .i64 k61, .int .i64 k62, .int .i64 0] 117)
        replace mW := mW.alloc (.cells #[.int .i64 y.b1, .int .i64 k61, .int .i64 k62, .int .i64 0] 117)
        replace mC := mC.alloc (.cells #[.int .i64 y.b1, .int .i64 k61, .int .i64 k62, .int .i64 0] 117)
        replace mE := mE.alloc (.cells #[.int .i64 y.b1, .int .i64 k61, .int .i64 k62, .int .i64 0] 117)
        replace jL := jL.alloc (.cells #[.int .i64 y.b1, .int .i64 k61, .int .i64 k62, .int .i64 0] 117)
        replace jA := jA.alloc (.cells #[.int .i64 y.b1, .int .i64 k61, .int .i64 k62, .int .i64 0] 117)
        replace jH := jH.alloc (.cells #[.int .i64 y.b1, .int .i64 k61, .int .i64 k62, .int .i64 0] 117)
        replace jR := jR.alloc (.cells #[.int .i64 y.b1, .int .i64 k61, .int .i64 k62, .int .i64 0] 117)
        replace jB := bwA jB (Nat.le_refl _) (.cells #[.int .i64 y.b1, .int .i64 k61, .int .i64 k62, .int .i64 0] 117)
        obtain ⟨a0, a1, a2, a3⟩ := jA.c4
        obtain ⟨h0, h1, h2, h3⟩ := jH.c4
        obtain ⟨q0, q1⟩ := mW.c2
        obtain ⟨cc0, cc1, cc2, cc3⟩ := mC.c4
        obtain ⟨ee0, ee1, ee2, ee3⟩ := mE.c4
        obtain ⟨ff0, ff1, ff2, ff3⟩ := mF.c4
        obtain ⟨gg0, gg1, gg2, gg3⟩ := mG.c4
        have zA := jA.lt
        have zH := jH.lt
        have zW := mW.lt
        have zC := mC.lt
        have zE := mE.lt
        have zF := mF.lt
        have zG := mG.lt
        obtain ⟨x0, x1, x2, x3, x4, x5, x6, x7, hR⟩ := jR
        obtain ⟨r0, r1, r2, r3, r4, r5, r6, r7⟩ := hR.c8
        have f0 := hR.free 0
        have f1 := hR.free 1
        have f2 := hR.free 2
        have f3 := hR.free 3
        have f4 := hR.free 4
        have f5 := hR.free 5
        have f6 := hR.free 6
        have f7 := hR.free 7
        have zR := hR.lt
        have HQ := Lib.hid (hR.set8 (.int .i64 y.b0) (.int .i64 y.b1) (.int .i64 y.w0) (.int .i64 y.w1) (.int .i64 y.q0) (.int .i64 y.q1) (.int .i64 x.s0) (.int .i64 x.s1)).c8
        go_wp2
        obtain ⟨z0, z1, z2, z3, z4, z5, z6, z7⟩ := HQ.out
        refine bodyPost_ret (v := .agg #[.int .i64 y.b0, .int .i64 y.b1, .int .i64 y.w0, .int .i64 y.w1, .int .i64 y.q0, .int .i64 y.q1, .int .i64 x.s0, .int .i64 x.s1]) (by simp [results, Tryz.results86, go_sem, z0, z1, z2, z3, z4, z5, z6, z7]) rfl ⟨by rw [HS0.out, HS1.out], ?_⟩
        iterate 8 refine Below.setCell ?_ (by simp; omega) _
        exact jB

set_option maxRecDepth 100000 in
set_option maxHeartbeats 16000000 in
theorem rwarm_any (l : Lw) (va : Option Addr) (vcap : Nat) (x : Ic) (f t : Int) (w : World) (hl : l.Ok) (hx : x.In 1000000000) (k0 : 0 ≤ f) (k1 : f ≤ 1000) (k2 : 0 ≤ t) (k3 : t ≤ 1000) (y : Ic) (hy : y = warmI l x f t) :
    Calls Tryz.prog 87 #[.agg #[.int .i64 l.gr, .int .i64 l.la, (.slice va l.n vcap), .int .i64 l.m0, .int .i64 l.m1, .int .i64 l.so, .int .i64 l.h0, .int .i64 l.h1], .agg #[.int .i64 x.b0, .int .i64 x.w0, .int .i64 x.q0, .int .i64 x.s0], .agg #[.int .i64 x.b1, .int .i64 x.w1, .int .i64 x.q1, .int .i64 x.s1], .int .i64 f, .int .i64 t] w fun e w' => e = .returned (.agg #[.int .i64 y.b0, .int .i64 y.b1, .int .i64 y.w0, .int .i64 y.w1, .int .i64 y.q0, .int .i64 y.q1, .int .i64 y.s0, .int .i64 y.s1]) ∧ Below w.heap.size w w' := by
  have l0 := hl.m0
  have l1 := hl.m1
  have l2 := hl.m2
  have a0 : 0 ≤ f * l.m0 := Int.mul_nonneg k0 l0
  have a1 : f * l.m0 ≤ 1000 * 10000000 := Int.mul_le_mul k1 (by omega) l0 (by omega)
  have a2 : 0 ≤ f * l.m1 := Int.mul_nonneg k0 (by omega)
  have a3 : f * l.m1 ≤ 1000 * 10000000 := Int.mul_le_mul k1 l2 (by omega) (by omega)
  have a4 : 0 ≤ t * l.m0 := Int.mul_nonneg k2 l0
  have a5 : t * l.m0 ≤ 1000 * 10000000 := Int.mul_le_mul k3 (by omega) l0 (by omega)
  have a6 : 0 ≤ t * l.m1 := Int.mul_nonneg k2 (by omega)
  have a7 : t * l.m1 ≤ 1000 * 10000000 := Int.mul_le_mul k3 l2 (by omega) (by omega)
  have T1 : Hid (∀ W, Calls Tryz.prog 108 #[.agg #[.int .i64 l.gr, .int .i64 l.la, (.slice va l.n vcap), .int .i64 l.m0, .int .i64 l.m1, .int .i64 l.so, .int .i64 l.h0, .int .i64 l.h1], .int .i64 t] W fun e w' => e = .returned (.agg #[.int .i64 (gotL t l.m0), .int .i64 (gotH t l.m1)]) ∧ Below W.heap.size W w') := fun W => rthawed_any l va vcap t W a4 (by omega) a6 (by omega)
  have T2 : Hid (∀ W, Calls Tryz.prog 108 #[.agg #[.int .i64 l.gr, .int .i64 l.la, (.slice va l.n vcap), .int .i64 l.m0, .int .i64 l.m1, .int .i64 l.so, .int .i64 l.h0, .int .i64 l.h1], .int .i64 f] W fun e w' => e = .returned (.agg #[.int .i64 (gotL f l.m0), .int .i64 (gotH f l.m1)]) ∧ Below W.heap.size W w') := fun W => rthawed_any l va vcap f W a0 (by omega) a2 (by omega)
  have r0 : 0 ≤ gotL f l.m0 ∧ gotL f l.m0 ≤ 1000000000 := by unfold gotL; omega
  have r1 : 0 ≤ gotH t l.m1 ∧ gotH t l.m1 ≤ 1000000000 := by unfold gotH; omega
  unfold warmI meltI at hy
  generalize gotL t l.m0 = u0 at T1
  generalize gotH f l.m1 = u1 at T2
  generalize gotH t l.m1 = R1 at T1 hy r1
  generalize gotL f l.m0 = R0 at T2 hy r0
  obtain ⟨b1, b2, b3, b4, b5, b6, b7, b8, b9, b10, b11, b12, b13, b14, b15, b16⟩ := hx
  have M1 : Hid (∀ W, Calls Tryz.prog 107 #[.agg #[.int .i64 x.b0, .int .i64 x.w0, .int .i64 x.q0, .int .i64 x.s0], .int .i64 R1] W fun e w' => e = .returned (.agg #[.int .i64 y.b0, .int .i64 y.w0, .int .i64 y.q0, .int .i64 y.s0]) ∧ Below W.heap.size W w') := fun W => by
    rw [hy]
    exact rmelted_any x.b0 x.w0 x.q0 x.s0 R1 W (by omega) (by omega) (by omega) (by omega) (by omega) (by omega) (by omega) (by omega)
  have M2 : Hid (∀ W, Calls Tryz.prog 107 #[.agg #[.int .i64 x.b1, .int .i64 x.w1, .int .i64 x.q1, .int .i64 x.s1], .int .i64 R0] W fun e w' => e = .returned (.agg #[.int .i64 y.b1, .int .i64 y.w1, .int .i64 y.q1, .int .i64 y.s1]) ∧ Below W.heap.size W w') := fun W => by
    rw [hy]
    exact rmelted_any x.b1 x.w1 x.q1 x.s1 R0 W (by omega) (by omega) (by omega) (by omega) (by omega) (by omega) (by omega) (by omega)
  clear hy a0 a1 a2 a3 a4 a5 a6 a7 l0 l1 l2 r0 r1 b1 b2 b3 b4 b5 b6 b7 b8 b9 b10 b11 b12 b13 b14 b15 b16 hl k0 k1 k2 k3
  have j0 : Blk ((((w.alloc (.cells #[.int .i64 l.gr, .int .i64 l.la, .slice va l.n vcap, .int .i64 l.m0, .int .i64 l.m1, .int .i64 l.so, .int .i64 l.h0, .int .i64 l.h1] 26)).alloc (.cells #[.int .i64 x.b0, .int .i64 x.w0, .int .i64 x.q0, .int .i64 x.s0] 117)).alloc (.cells #[.int .i64 x.b1, .int .i64 x.w1, .int .i64 x.q1, .int .i64 x.s1] 117)).alloc (.cells #[.int .i64 0, .int .i64 0, .int .i64 0, .int .i64 0, .int .i64 0, .int .i64 0, .int .i64 0, .int .i64 0] 28)) w.heap.size #[.int .i64 l.gr, .int .i64 l.la, .slice va l.n vcap, .int .i64 l.m0, .int .i64 l.m1, .int .i64 l.so, .int .i64 l.h0, .int .i64 l.h1] 26 := (((Blk.new w _ _).alloc _).alloc _).alloc _
  have j1 : Blk ((((w.alloc (.cells #[.int .i64 l.gr, .int .i64 l.la, .slice va l.n vcap, .int .i64 l.m0, .int .i64 l.m1, .int .i64 l.so, .int .i64 l.h0, .int .i64 l.h1] 26)).alloc (.cells #[.int .i64 x.b0, .int .i64 x.w0, .int .i64 x.q0, .int .i64 x.s0] 117)).alloc (.cells #[.int .i64 x.b1, .int .i64 x.w1, .int .i64 x.q1, .int .i64 x.s1] 117)).alloc (.cells #[.int .i64 0, .int .i64 0, .int .i64 0, .int .i64 0, .int .i64 0, .int .i64 0, .int .i64 0, .int .i64 0] 28)) (w.heap.size + 1) #[.int .i64 x.b0, .int .i64 x.w0, .int .i64 x.q0, .int .i64 x.s0] 117 := ((Blk.new1 w _ _ _).alloc _).alloc _
  have j2 : Blk ((((w.alloc (.cells #[.int .i64 l.gr, .int .i64 l.la, .slice va l.n vcap, .int .i64 l.m0, .int .i64 l.m1, .int .i64 l.so, .int .i64 l.h0, .int .i64 l.h1] 26)).alloc (.cells #[.int .i64 x.b0, .int .i64 x.w0, .int .i64 x.q0, .int .i64 x.s0] 117)).alloc (.cells #[.int .i64 x.b1, .int .i64 x.w1, .int .i64 x.q1, .int .i64 x.s1] 117)).alloc (.cells #[.int .i64 0, .int .i64 0, .int .i64 0, .int .i64 0, .int .i64 0, .int .i64 0, .int .i64 0, .int .i64 0] 28)) (w.heap.size + 1 + 1) #[.int .i64 x.b1, .int .i64 x.w1, .int .i64 x.q1, .int .i64 x.s1] 117 := (Blk.new2 w _ _ _ _).alloc _
  have j3 : Eight ((((w.alloc (.cells #[.int .i64 l.gr, .int .i64 l.la, .slice va l.n vcap, .int .i64 l.m0, .int .i64 l.m1, .int .i64 l.so, .int .i64 l.h0, .int .i64 l.h1] 26)).alloc (.cells #[.int .i64 x.b0, .int .i64 x.w0, .int .i64 x.q0, .int .i64 x.s0] 117)).alloc (.cells #[.int .i64 x.b1, .int .i64 x.w1, .int .i64 x.q1, .int .i64 x.s1] 117)).alloc (.cells #[.int .i64 0, .int .i64 0, .int .i64 0, .int .i64 0, .int .i64 0, .int .i64 0, .int .i64 0, .int .i64 0] 28)) (w.heap.size + 1 + 1 + 1) 28 := ⟨_, _, _, _, _, _, _, _, Blk.new3 w (.cells #[.int .i64 l.gr, .int .i64 l.la, .slice va l.n vcap, .int .i64 l.m0, .int .i64 l.m1, .int .i64 l.so, .int .i64 l.h0, .int .i64 l.h1] 26) (.cells #[.int .i64 x.b0, .int .i64 x.w0, .int .i64 x.q0, .int .i64 x.s0] 117) (.cells #[.int .i64 x.b1, .int .i64 x.w1, .int .i64 x.q1, .int .i64 x.s1] 117) #[.int .i64 0, .int .i64 0, .int .i64 0, .int .i64 0, .int .i64 0, .int .i64 0, .int .i64 0, .int .i64 0] 28⟩
  have jB : Below w.heap.size w ((((w.alloc (.cells #[.int .i64 l.gr, .int .i64 l.la, .slice va l.n vcap, .int .i64 l.m0, .int .i64 l.m1, .int .i64 l.so, .int .i64 l.h0, .int .i64 l.h1] 26)).alloc (.cells #[.int .i64 x.b0, .int .i64 x.w0, .int .i64 x.q0, .int .i64 x.s0] 117)).alloc (.cells #[.int .i64 x.b1, .int .i64 x.w1, .int .i64 x.q1, .int .i64 x.s1] 117)).alloc (.cells #[.int .i64 0, .int .i64 0, .int .i64 0, .int .i64 0, .int .i64 0, .int .i64 0, .int .i64 0, .int .i64 0] 28)) := by (repeat (first | exact Below.refl _ _ | assumption | refine Below.drew ?_ | refine Below.drewN ?_ _ | refine blT ?_ | refine blU ?_))
  go_enter Tryz.func87, Tryz.ntmps87
  go_upto_region 1 with fail
  generalize ((((w.alloc (.cells #[.int .i64 l.gr, .int .i64 l.la, .slice va l.n vcap, .int .i64 l.m0, .int .i64 l.m1, .int .i64 l.so, .int .i64 l.h0, .int .i64 l.h1] 26)).alloc (.cells #[.int .i64 x.b0, .int .i64 x.w0, .int .i64 x.q0, .int .i64 x.s0] 117)).alloc (.cells #[.int .i64 x.b1, .int .i64 x.w1, .int .i64 x.q1, .int .i64 x.s1] 117)).alloc (.cells #[.int .i64 0, .int .i64 0, .int .i64 0, .int .i64 0, .int .i64 0, .int .i64 0, .int .i64 0, .int .i64 0] 28)) = V at j0 j1 j2 j3 jB ⊢
  go_upto_region 1 with fail
  go_cut [11, 12] (fun s11 s12 wx => ∃ bA bE : Nat, s11 = .pointer (some ⟨bA, 0, none⟩) ∧ s12 = .pointer (some ⟨bE, 0, none⟩) ∧ Blk wx bA #[.int .i64 y.b0, .int .i64 y.w0, .int .i64 y.q0, .int .i64 y.s0] 117 ∧ Blk wx bE #[.int .i64 y.b1, .int .i64 y.w1, .int .i64 y.q1, .int .i64 y.s1] 117 ∧ w.heap.size + 1 + 1 + 1 < bA ∧ w.heap.size + 1 + 1 + 1 < bE ∧ Blk wx (w.heap.size) #[.int .i64 l.gr, .int .i64 l.la, .slice va l.n vcap, .int .i64 l.m0, .int .i64 l.m1, .int .i64 l.so, .int .i64 l.h0, .int .i64 l.h1] 26 ∧ Blk wx (w.heap.size + 1) #[.int .i64 x.b0, .int .i64 x.w0, .int .i64 x.q0, .int .i64 x.s0] 117 ∧ Blk wx (w.heap.size + 1 + 1) #[.int .i64 x.b1, .int .i64 x.w1, .int .i64 x.q1, .int .i64 x.s1] 117 ∧ Eight wx (w.heap.size + 1 + 1 + 1) 28 ∧ Below w.heap.size w wx)
  case first =>
    (
 let S9 : World → Prop := (fun w' => Blk w' (w.heap.size) #[.int .i64 l.gr, .int .i64 l.la, .slice va l.n vcap, .int .i64 l.m0, .int .i64 l.m1, .int .i64 l.so, .int .i64 l.h0, .int .i64 l.h1] 26 ∧ Blk w' (w.heap.size + 1) #[.int .i64 x.b0, .int .i64 x.w0, .int .i64 x.q0, .int .i64 x.s0] 117 ∧ Blk w' (w.heap.size + 1 + 1) #[.int .i64 x.b1, .int .i64 x.w1, .int .i64 x.q1, .int .i64 x.s1] 117 ∧ Eight w' (w.heap.size + 1 + 1 + 1) 28 ∧ Below w.heap.size w w')
 refine wp_region_held_drew (S := S9) (by kernel_rfl) ?_ (fun hH => ?_)
 · (try dsimp only); (exact ⟨j0.drew, j1.drew, j2.drew, j3, jB.drew⟩)
 apply share0_2 (fun (bA bE : Nat) (W : World) => S9 W ∧ Blk W bA #[.int .i64 0, .int .i64 0, .int .i64 0, .int .i64 0] 117 ∧ Blk W bE #[.int .i64 0, .int .i64 0, .int .i64 0, .int .i64 0] 117 ∧ (w.heap.size + 1 + 1 + 1 < bA) ∧ (w.heap.size + 1 + 1 + 1 < bE) ∧ (bA ≠ bE))
 {
 intro X4_01
 apply share0_2 (fun (bA bE : Nat) (W : World) => S9 W ∧ Blk W bA #[.int .i64 0, .int .i64 0, .int .i64 0, .int .i64 0] 117 ∧ Blk W bE #[.int .i64 0, .int .i64 0, .int .i64 0, .int .i64 0] 117 ∧ (w.heap.size + 1 + 1 + 1 < bA) ∧ (w.heap.size + 1 + 1 + 1 < bE) ∧ (bA ≠ bE))
 {
 intro X3_01
 apply share0_1 (fun (bA : Nat) (W : World) => S9 W ∧ Blk W bA #[.int .i64 0, .int .i64 0, .int .i64 0, .int .i64 0] 117 ∧ (w.heap.size + 1 + 1 + 1 < bA))
 {
 intro X4_0
 apply share0_1 (fun (bE : Nat) (W : World) => S9 W ∧ Blk W bE #[.int .i64 0, .int .i64 0, .int .i64 0, .int .i64 0] 117 ∧ (w.heap.size + 1 + 1 + 1 < bE))
 {
 intro X4_1
 apply share0_2 (fun (bA bE : Nat) (W : World) => S9 W ∧ Blk W bA #[.int .i64 0, .int .i64 0, .int .i64 0, .int .i64 0] 117 ∧ Blk W bE #[.int .i64 0, .int .i64 0, .int .i64 0, .int .i64 0] 117 ∧ (w.heap.size + 1 + 1 + 1 < bA) ∧ (w.heap.size + 1 + 1 + 1 < bE) ∧ (bA ≠ bE))
 {
 intro X2_01
 apply share0_1 (fun (bA : Nat) (W : World) => S9 W ∧ Blk W bA #[.int .i64 0, .int .i64 0, .int .i64 0, .int .i64 0] 117 ∧ (w.heap.size + 1 + 1 + 1 < bA))
 {
 intro X3_0
 apply share0_1 (fun (bE : Nat) (W : World) => S9 W ∧ Blk W bE #[.int .i64 0, .int .i64 0, .int .i64 0, .int .i64 0] 117 ∧ (w.heap.size + 1 + 1 + 1 < bE))
 {
 intro X3_1
 apply share0_2 (fun (bA bE : Nat) (W : World) => S9 W ∧ Blk W bA #[.int .i64 0, .int .i64 0, .int .i64 0, .int .i64 0] 117 ∧ Blk W bE #[.int .i64 0, .int .i64 0, .int .i64 0, .int .i64 0] 117 ∧ (w.heap.size + 1 + 1 + 1 < bA) ∧ (w.heap.size + 1 + 1 + 1 < bE) ∧ (bA ≠ bE))
 {
 intro X1_01
 apply share0_1 (fun (bA : Nat) (W : World) => S9 W ∧ Blk W bA #[.int .i64 0, .int .i64 0, .int .i64 0, .int .i64 0] 117 ∧ (w.heap.size + 1 + 1 + 1 < bA))
 {
 intro X2_0
 apply share0_1 (fun (bE : Nat) (W : World) => S9 W ∧ Blk W bE #[.int .i64 0, .int .i64 0, .int .i64 0, .int .i64 0] 117 ∧ (w.heap.size + 1 + 1 + 1 < bE))
 {
 intro X2_1
 apply share0_2 (fun (bA bE : Nat) (W : World) => S9 W ∧ Blk W bA #[.int .i64 0, .int .i64 0, .int .i64 0, .int .i64 0] 117 ∧ Blk W bE #[.int .i64 0, .int .i64 0, .int .i64 0, .int .i64 0] 117 ∧ (w.heap.size + 1 + 1 + 1 < bA) ∧ (w.heap.size + 1 + 1 + 1 < bE) ∧ (bA ≠ bE))
 {
 intro X0_01
 apply share0_1 (fun (bA : Nat) (W : World) => S9 W ∧ Blk W bA #[.int .i64 0, .int .i64 0, .int .i64 0, .int .i64 0] 117 ∧ (w.heap.size + 1 + 1 + 1 < bA))
 {
 intro X1_0
 apply share0_1 (fun (bE : Nat) (W : World) => S9 W ∧ Blk W bE #[.int .i64 0, .int .i64 0, .int .i64 0, .int .i64 0] 117 ∧ (w.heap.size + 1 + 1 + 1 < bE))
 {
 intro X1_1
 apply share0_1 (fun (bA : Nat) (W : World) => S9 W ∧ Blk W bA #[.int .i64 0, .int .i64 0, .int .i64 0, .int .i64 0] 117 ∧ (w.heap.size + 1 + 1 + 1 < bA))
 {
 intro X0_0
 apply share0_1 (fun (bE : Nat) (W : World) => S9 W ∧ Blk W bE #[.int .i64 0, .int .i64 0, .int .i64 0, .int .i64 0] 117 ∧ (w.heap.size + 1 + 1 + 1 < bE))
 {
 intro X0_1
 refine tkY 0 (some 13) ?_ ?_ ?_
 rotate_left
 · intro w hS0; (try dsimp only at hS0); obtain ⟨kl, ka, kh, _, _⟩ := hS0; obtain ⟨l0, l1, l2, l3, l4, l5, l6, l7⟩ := kl.c8; obtain ⟨a0, a1, a2, a3⟩ := ka.c4; obtain ⟨h0, h1, h2, h3⟩ := kh.c4;go_simp; (try with_reducible rfl)
 (try simp only [cq])
 refine tkY 1 (some 14) ?_ ?_ ?_
 rotate_left
 · intro w hS0; (try dsimp only at hS0); obtain ⟨kl, ka, kh, _, _⟩ := hS0; obtain ⟨l0, l1, l2, l3, l4, l5, l6, l7⟩ := kl.c8; obtain ⟨a0, a1, a2, a3⟩ := ka.c4; obtain ⟨h0, h1, h2, h3⟩ := kh.c4;go_simp; (try with_reducible rfl)
 (try simp only [cq])
 refine tkY 2 (some 15) ?_ ?_ ?_
 rotate_left
 · intro w _; go_simp; (try with_reducible rfl)
 (try simp only [cq])
 refine tkY 6 (some 19) ?_ ?_ ?_
 rotate_left
 · intro w hS0; (try dsimp only at hS0); obtain ⟨kl, ka, kh, _, _⟩ := hS0; obtain ⟨l0, l1, l2, l3, l4, l5, l6, l7⟩ := kl.c8; obtain ⟨a0, a1, a2, a3⟩ := ka.c4; obtain ⟨h0, h1, h2, h3⟩ := kh.c4;go_simp; (try with_reducible rfl)
 (try simp only [cq])
 refine tkY 7 (some 20) ?_ ?_ ?_
 rotate_left
 · intro w hS0; (try dsimp only at hS0); obtain ⟨kl, ka, kh, _, _⟩ := hS0; obtain ⟨l0, l1, l2, l3, l4, l5, l6, l7⟩ := kl.c8; obtain ⟨a0, a1, a2, a3⟩ := ka.c4; obtain ⟨h0, h1, h2, h3⟩ := kh.c4;go_simp; (try with_reducible rfl)
 (try simp only [cq])
 refine tkY 8 (some 21) ?_ ?_ ?_
 rotate_left
 · intro w _; go_simp; (try with_reducible rfl)
 (try simp only [cq])
 refine wpAnyH_ready (rs := [3, 12, 13]) (by kernel_rfl) (by simp) ?_
 refine arc (some 16) (fun K hK => ?_) ?_
 {
 go_simp
 (refine (T1.out _).mono ?_; rintro e w' ⟨rfl, hb⟩)
 refine hK.out _ _ ?_ ?_
 · (exact ⟨hH.1.call hb, hH.2.1.call hb, hH.2.2.1.call hb, hH.2.2.2.1.call hb, bwS hH.2.2.2.2 (Nat.le_refl _) hb⟩)
 (try clear hH); (try clear hb)
 intro hH
 clear hK K
 (try simp only [cq])
 refine tkY 4 (some 17) ?_ ?_ ?_
 rotate_left
 · intro w _; go_simp; (try with_reducible rfl)
 (try simp only [cq])
 refine wpAnyH_ready (rs := [5, 12, 13]) (by kernel_rfl) (by simp) ?_
 refine arc (some 18) (fun K hK => ?_) ?_
 {
 go_simp
 (refine (M1.out _).mono ?_; rintro e w' ⟨rfl, hb⟩)
 refine hK.out _ _ ?_ ?_
 · (exact ⟨hH.1.call hb, hH.2.1.call hb, hH.2.2.1.call hb, hH.2.2.2.1.call hb, bwS hH.2.2.2.2 (Nat.le_refl _) hb⟩)
 (try clear hH); (try clear hb)
 intro hH
 clear hK K
 (try simp only [cq])
 refine wpAnyH_ready (rs := [9, 12, 13]) (by kernel_rfl) (by simp) ?_
 refine arc (some 22) (fun K hK => ?_) ?_
 {
 go_simp
 (refine (T2.out _).mono ?_; rintro e w' ⟨rfl, hb⟩)
 refine hK.out _ _ ?_ ?_
 · (exact ⟨hH.1.call hb, hH.2.1.call hb, hH.2.2.1.call hb, hH.2.2.2.1.call hb, bwS hH.2.2.2.2 (Nat.le_refl _) hb⟩)
 (try clear hH); (try clear hb)
 intro hH
 clear hK K
 (try simp only [cq])
 refine tkY 10 (some 23) ?_ ?_ ?_
 rotate_left
 · intro w _; go_simp; (try with_reducible rfl)
 (try simp only [cq])
 refine wpAnyH_ready (rs := [11, 12, 13]) (by kernel_rfl) (by simp) ?_
 refine arc (some 24) (fun K hK => ?_) ?_
 {
 go_simp
 (refine (M2.out _).mono ?_; rintro e w' ⟨rfl, hb⟩)
 refine hK.out _ _ ?_ ?_
 · (exact ⟨hH.1.call hb, hH.2.1.call hb, hH.2.2.1.call hb, hH.2.2.2.1.call hb, bwS hH.2.2.2.2 (Nat.le_refl _) hb⟩)
 (try clear hH); (try clear hb)
 intro hH
 clear hK K
 (try simp only [cq])
 refine wpAnyH_ready (rs := [12, 13]) (by kernel_rfl) (by simp) ?_
 refine arc (some 11) (fun K hK => ?_) ?_
 {
 (have hNbA1 := hH.2.2.2.1.lt; (try simp only [World.drew] at hNbA1))
 go_simp
 first | refine oA hK ?_ (fun hH hA => ?_) | refine oD hK ?_ (fun hH hA => ?_)
 · exact ⟨hH.1.alloc _, hH.2.1.alloc _, hH.2.2.1.alloc _, hH.2.2.2.1.alloc _, bwA hH.2.2.2.2 (Nat.le_refl _) _⟩
 clear hK K
 (try simp only [cq])
 obtain ⟨bA, hbA⟩ : ∃ b, Blk.num hA = b := ⟨_, rfl⟩
 obtain ⟨W, hW⟩ : ∃ V, Blk.wld hA = V := ⟨_, rfl⟩
 simp only [Blk.num] at hbA
 simp only [Blk.wld] at hW
 rw [hW] at hH hA ⊢
 rw [hbA] at hA ⊢
 replace hNbA1 : w.heap.size + 1 + 1 + 1 < bA := (by rw [← hbA]; exact hNbA1)
 clear hW hbA
 have hAbA := hA
 clear hA
 exact X4_0 bA W ⟨hH, hAbA, hNbA1⟩
 }
 refine arc (some 12) (fun K hK => ?_) ?_
 {
 (have hNbE1 := hH.2.2.2.1.lt; (try simp only [World.drew] at hNbE1))
 go_simp
 first | refine oA hK ?_ (fun hH hA => ?_) | refine oD hK ?_ (fun hH hA => ?_)
 · exact ⟨hH.1.alloc _, hH.2.1.alloc _, hH.2.2.1.alloc _, hH.2.2.2.1.alloc _, bwA hH.2.2.2.2 (Nat.le_refl _) _⟩
 clear hK K
 (try simp only [cq])
 obtain ⟨bE, hbA⟩ : ∃ b, Blk.num hA = b := ⟨_, rfl⟩
 obtain ⟨W, hW⟩ : ∃ V, Blk.wld hA = V := ⟨_, rfl⟩
 simp only [Blk.num] at hbA
 simp only [Blk.wld] at hW
 rw [hW] at hH hA ⊢
 rw [hbA] at hA ⊢
 replace hNbE1 : w.heap.size + 1 + 1 + 1 < bE := (by rw [← hbA]; exact hNbE1)
 clear hW hbA
 have hAbE := hA
 clear hA
 exact X4_1 bE W ⟨hH, hAbE, hNbE1⟩
 }
 exact AllReadyH.nil
 }
 refine arc (some 11) (fun K hK => ?_) ?_
 {
 (have hNbA1 := hH.2.2.2.1.lt; (try simp only [World.drew] at hNbA1))
 go_simp
 first | refine oA hK ?_ (fun hH hA => ?_) | refine oD hK ?_ (fun hH hA => ?_)
 · exact ⟨hH.1.alloc _, hH.2.1.alloc _, hH.2.2.1.alloc _, hH.2.2.2.1.alloc _, bwA hH.2.2.2.2 (Nat.le_refl _) _⟩
 clear hK K
 (try simp only [cq])
 obtain ⟨bA, hbA⟩ : ∃ b, Blk.num hA = b := ⟨_, rfl⟩
 obtain ⟨W, hW⟩ : ∃ V, Blk.wld hA = V := ⟨_, rfl⟩
 simp only [Blk.num] at hbA
 simp only [Blk.wld] at hW
 rw [hW] at hH hA ⊢
 rw [hbA] at hA ⊢
 replace hNbA1 : w.heap.size + 1 + 1 + 1 < bA := (by rw [← hbA]; exact hNbA1)
 clear hW hbA
 have hAbA := hA
 clear hA
 exact X3_0 bA W ⟨hH, hAbA, hNbA1⟩
 }
 refine arc (some 12) (fun K hK => ?_) ?_
 {
 (have hNbE1 := hH.2.2.2.1.lt; (try simp only [World.drew] at hNbE1))
 go_simp
 first | refine oA hK ?_ (fun hH hA => ?_) | refine oD hK ?_ (fun hH hA => ?_)
 · exact ⟨hH.1.alloc _, hH.2.1.alloc _, hH.2.2.1.alloc _, hH.2.2.2.1.alloc _, bwA hH.2.2.2.2 (Nat.le_refl _) _⟩
 clear hK K
 (try simp only [cq])
 obtain ⟨bE, hbA⟩ : ∃ b, Blk.num hA = b := ⟨_, rfl⟩
 obtain ⟨W, hW⟩ : ∃ V, Blk.wld hA = V := ⟨_, rfl⟩
 simp only [Blk.num] at hbA
 simp only [Blk.wld] at hW
 rw [hW] at hH hA ⊢
 rw [hbA] at hA ⊢
 replace hNbE1 : w.heap.size + 1 + 1 + 1 < bE := (by rw [← hbA]; exact hNbE1)
 clear hW hbA
 have hAbE := hA
 clear hA
 exact X3_1 bE W ⟨hH, hAbE, hNbE1⟩
 }
 exact AllReadyH.nil
 }
 refine arc (some 11) (fun K hK => ?_) ?_
 {
 (have hNbA1 := hH.2.2.2.1.lt; (try simp only [World.drew] at hNbA1))
 go_simp
 first | refine oA hK ?_ (fun hH hA => ?_) | refine oD hK ?_ (fun hH hA => ?_)
 · exact ⟨hH.1.alloc _, hH.2.1.alloc _, hH.2.2.1.alloc _, hH.2.2.2.1.alloc _, bwA hH.2.2.2.2 (Nat.le_refl _) _⟩
 clear hK K
 (try simp only [cq])
 obtain ⟨bA, hbA⟩ : ∃ b, Blk.num hA = b := ⟨_, rfl⟩
 obtain ⟨W, hW⟩ : ∃ V, Blk.wld hA = V := ⟨_, rfl⟩
 simp only [Blk.num] at hbA
 simp only [Blk.wld] at hW
 rw [hW] at hH hA ⊢
 rw [hbA] at hA ⊢
 replace hNbA1 : w.heap.size + 1 + 1 + 1 < bA := (by rw [← hbA]; exact hNbA1)
 clear hW hbA
 have hAbA := hA
 clear hA
 exact X2_0 bA W ⟨hH, hAbA, hNbA1⟩
 }
 refine arc (some 12) (fun K hK => ?_) ?_
 {
 (have hNbE1 := hH.2.2.2.1.lt; (try simp only [World.drew] at hNbE1))
 go_simp
 first | refine oA hK ?_ (fun hH hA => ?_) | refine oD hK ?_ (fun hH hA => ?_)
 · exact ⟨hH.1.alloc _, hH.2.1.alloc _, hH.2.2.1.alloc _, hH.2.2.2.1.alloc _, bwA hH.2.2.2.2 (Nat.le_refl _) _⟩
 clear hK K
 (try simp only [cq])
 obtain ⟨bE, hbA⟩ : ∃ b, Blk.num hA = b := ⟨_, rfl⟩
 obtain ⟨W, hW⟩ : ∃ V, Blk.wld hA = V := ⟨_, rfl⟩
 simp only [Blk.num] at hbA
 simp only [Blk.wld] at hW
 rw [hW] at hH hA ⊢
 rw [hbA] at hA ⊢
 replace hNbE1 : w.heap.size + 1 + 1 + 1 < bE := (by rw [← hbA]; exact hNbE1)
 clear hW hbA
 have hAbE := hA
 clear hA
 exact X2_1 bE W ⟨hH, hAbE, hNbE1⟩
 }
 exact AllReadyH.nil
 }
 refine arc (some 11) (fun K hK => ?_) ?_
 {
 (have hNbA1 := hH.2.2.2.1.lt; (try simp only [World.drew] at hNbA1))
 go_simp
 first | refine oA hK ?_ (fun hH hA => ?_) | refine oD hK ?_ (fun hH hA => ?_)
 · exact ⟨hH.1.alloc _, hH.2.1.alloc _, hH.2.2.1.alloc _, hH.2.2.2.1.alloc _, bwA hH.2.2.2.2 (Nat.le_refl _) _⟩
 clear hK K
 (try simp only [cq])
 obtain ⟨bA, hbA⟩ : ∃ b, Blk.num hA = b := ⟨_, rfl⟩
 obtain ⟨W, hW⟩ : ∃ V, Blk.wld hA = V := ⟨_, rfl⟩
 simp only [Blk.num] at hbA
 simp only [Blk.wld] at hW
 rw [hW] at hH hA ⊢
 rw [hbA] at hA ⊢
 replace hNbA1 : w.heap.size + 1 + 1 + 1 < bA := (by rw [← hbA]; exact hNbA1)
 clear hW hbA
 have hAbA := hA
 clear hA
 exact X1_0 bA W ⟨hH, hAbA, hNbA1⟩
 }
 refine arc (some 12) (fun K hK => ?_) ?_
 {
 (have hNbE1 := hH.2.2.2.1.lt; (try simp only [World.drew] at hNbE1))
 go_simp
 first | refine oA hK ?_ (fun hH hA => ?_) | refine oD hK ?_ (fun hH hA => ?_)
 · exact ⟨hH.1.alloc _, hH.2.1.alloc _, hH.2.2.1.alloc _, hH.2.2.2.1.alloc _, bwA hH.2.2.2.2 (Nat.le_refl _) _⟩
 clear hK K
 (try simp only [cq])
 obtain ⟨bE, hbA⟩ : ∃ b, Blk.num hA = b := ⟨_, rfl⟩
 obtain ⟨W, hW⟩ : ∃ V, Blk.wld hA = V := ⟨_, rfl⟩
 simp only [Blk.num] at hbA
 simp only [Blk.wld] at hW
 rw [hW] at hH hA ⊢
 rw [hbA] at hA ⊢
 replace hNbE1 : w.heap.size + 1 + 1 + 1 < bE := (by rw [← hbA]; exact hNbE1)
 clear hW hbA
 have hAbE := hA
 clear hA
 exact X1_1 bE W ⟨hH, hAbE, hNbE1⟩
 }
 exact AllReadyH.nil
 }
 refine arc (some 11) (fun K hK => ?_) ?_
 {
 (have hNbA1 := hH.2.2.2.1.lt; (try simp only [World.drew] at hNbA1))
 go_simp
 first | refine oA hK ?_ (fun hH hA => ?_) | refine oD hK ?_ (fun hH hA => ?_)
 · exact ⟨hH.1.alloc _, hH.2.1.alloc _, hH.2.2.1.alloc _, hH.2.2.2.1.alloc _, bwA hH.2.2.2.2 (Nat.le_refl _) _⟩
 clear hK K
 (try simp only [cq])
 obtain ⟨bA, hbA⟩ : ∃ b, Blk.num hA = b := ⟨_, rfl⟩
 obtain ⟨W, hW⟩ : ∃ V, Blk.wld hA = V := ⟨_, rfl⟩
 simp only [Blk.num] at hbA
 simp only [Blk.wld] at hW
 rw [hW] at hH hA ⊢
 rw [hbA] at hA ⊢
 replace hNbA1 : w.heap.size + 1 + 1 + 1 < bA := (by rw [← hbA]; exact hNbA1)
 clear hW hbA
 have hAbA := hA
 clear hA
 exact X0_0 bA W ⟨hH, hAbA, hNbA1⟩
 }
 refine arc (some 12) (fun K hK => ?_) ?_
 {
 (have hNbE1 := hH.2.2.2.1.lt; (try simp only [World.drew] at hNbE1))
 go_simp
 first | refine oA hK ?_ (fun hH hA => ?_) | refine oD hK ?_ (fun hH hA => ?_)
 · exact ⟨hH.1.alloc _, hH.2.1.alloc _, hH.2.2.1.alloc _, hH.2.2.2.1.alloc _, bwA hH.2.2.2.2 (Nat.le_refl _) _⟩
 clear hK K
 (try simp only [cq])
 obtain ⟨bE, hbA⟩ : ∃ b, Blk.num hA = b := ⟨_, rfl⟩
 obtain ⟨W, hW⟩ : ∃ V, Blk.wld hA = V := ⟨_, rfl⟩
 simp only [Blk.num] at hbA
 simp only [Blk.wld] at hW
 rw [hW] at hH hA ⊢
 rw [hbA] at hA ⊢
 replace hNbE1 : w.heap.size + 1 + 1 + 1 < bE := (by rw [← hbA]; exact hNbE1)
 clear hW hbA
 have hAbE := hA
 clear hA
 exact X0_1 bE W ⟨hH, hAbE, hNbE1⟩
 }
 exact AllReadyH.nil
 }
 {
 intro bE W hall
 obtain ⟨hH, hAbE, hNbE1⟩ := hall
 (try dsimp only at hH)
 refine wpAnyH_ready (rs := [3, 12]) (by kernel_rfl) (by simp) ?_
 refine arc (some 16) (fun K hK => ?_) ?_
 {
 go_simp
 (refine (T1.out _).mono ?_; rintro e w' ⟨rfl, hb⟩)
 (replace hAbE := hAbE.call hb)
 refine hK.out _ _ ?_ ?_
 · (exact ⟨hH.1.call hb, hH.2.1.call hb, hH.2.2.1.call hb, hH.2.2.2.1.call hb, bwS hH.2.2.2.2 (Nat.le_refl _) hb⟩)
 (try clear hH); (try clear hb)
 intro hH
 clear hK K
 (try simp only [cq])
 refine tkY 4 (some 17) ?_ ?_ ?_
 rotate_left
 · intro w _; go_simp; (try with_reducible rfl)
 (try simp only [cq])
 exact X1_1 bE w' ⟨hH, hAbE, hNbE1⟩
 }
 refine arc (some 11) (fun K hK => ?_) ?_
 {
 (have hNbA1 := hH.2.2.2.1.lt; (try simp only [World.drew] at hNbA1))
 have zzbE := hAbE.lt
 go_simp
 first | refine oA hK ?_ (fun hH hA => ?_) | refine oD hK ?_ (fun hH hA => ?_)
 · exact ⟨hH.1.alloc _, hH.2.1.alloc _, hH.2.2.1.alloc _, hH.2.2.2.1.alloc _, bwA hH.2.2.2.2 (Nat.le_refl _) _⟩
 clear hK K
 (try simp only [cq])
 obtain ⟨bA, hbA⟩ : ∃ b, Blk.num hA = b := ⟨_, rfl⟩
 obtain ⟨W, hW⟩ : ∃ V, Blk.wld hA = V := ⟨_, rfl⟩
 simp only [Blk.num] at hbA
 simp only [Blk.wld] at hW
 first | replace hAbE := awB hW hAbE | replace hAbE := awD hW hAbE
 rw [hW] at hH hA ⊢
 rw [hbA] at hA ⊢
 replace hNbA1 : w.heap.size + 1 + 1 + 1 < bA := (by rw [← hbA]; exact hNbA1)
 have hPbAbE : bA ≠ bE := (by (try simp only [World.drew] at zzbE hbA); omega)
 clear hW hbA zzbE
 have hAbA := hA
 clear hA
 exact X0_01 bA bE W ⟨hH, hAbA, hAbE, hNbA1, hNbE1, hPbAbE⟩
 }
 exact AllReadyH.nil
 }
 }
 {
 intro bA W hall
 obtain ⟨hH, hAbA, hNbA1⟩ := hall
 (try dsimp only at hH)
 refine wpAnyH_ready (rs := [3, 13]) (by kernel_rfl) (by simp) ?_
 refine arc (some 16) (fun K hK => ?_) ?_
 {
 go_simp
 (refine (T1.out _).mono ?_; rintro e w' ⟨rfl, hb⟩)
 (replace hAbA := hAbA.call hb)
 refine hK.out _ _ ?_ ?_
 · (exact ⟨hH.1.call hb, hH.2.1.call hb, hH.2.2.1.call hb, hH.2.2.2.1.call hb, bwS hH.2.2.2.2 (Nat.le_refl _) hb⟩)
 (try clear hH); (try clear hb)
 intro hH
 clear hK K
 (try simp only [cq])
 refine tkY 4 (some 17) ?_ ?_ ?_
 rotate_left
 · intro w _; go_simp; (try with_reducible rfl)
 (try simp only [cq])
 exact X1_0 bA w' ⟨hH, hAbA, hNbA1⟩
 }
 refine arc (some 12) (fun K hK => ?_) ?_
 {
 (have hNbE1 := hH.2.2.2.1.lt; (try simp only [World.drew] at hNbE1))
 have zzbA := hAbA.lt
 go_simp
 first | refine oA hK ?_ (fun hH hA => ?_) | refine oD hK ?_ (fun hH hA => ?_)
 · exact ⟨hH.1.alloc _, hH.2.1.alloc _, hH.2.2.1.alloc _, hH.2.2.2.1.alloc _, bwA hH.2.2.2.2 (Nat.le_refl _) _⟩
 clear hK K
 (try simp only [cq])
 obtain ⟨bE, hbA⟩ : ∃ b, Blk.num hA = b := ⟨_, rfl⟩
 obtain ⟨W, hW⟩ : ∃ V, Blk.wld hA = V := ⟨_, rfl⟩
 simp only [Blk.num] at hbA
 simp only [Blk.wld] at hW
 first | replace hAbA := awB hW hAbA | replace hAbA := awD hW hAbA
 rw [hW] at hH hA ⊢
 rw [hbA] at hA ⊢
 replace hNbE1 : w.heap.size + 1 + 1 + 1 < bE := (by rw [← hbA]; exact hNbE1)
 have hPbAbE : bA ≠ bE := (by (try simp only [World.drew] at zzbA hbA); omega)
 clear hW hbA zzbA
 have hAbE := hA
 clear hA
 exact X0_01 bA bE W ⟨hH, hAbA, hAbE, hNbA1, hNbE1, hPbAbE⟩
 }
 exact AllReadyH.nil
 }
 }
 {
 intro bE W hall
 obtain ⟨hH, hAbE, hNbE1⟩ := hall
 (try dsimp only at hH)
 refine wpAnyH_ready (rs := [5, 12]) (by kernel_rfl) (by simp) ?_
 refine arc (some 18) (fun K hK => ?_) ?_
 {
 go_simp
 (refine (M1.out _).mono ?_; rintro e w' ⟨rfl, hb⟩)
 (replace hAbE := hAbE.call hb)
 refine hK.out _ _ ?_ ?_
 · (exact ⟨hH.1.call hb, hH.2.1.call hb, hH.2.2.1.call hb, hH.2.2.2.1.call hb, bwS hH.2.2.2.2 (Nat.le_refl _) hb⟩)
 (try clear hH); (try clear hb)
 intro hH
 clear hK K
 (try simp only [cq])
 exact X2_1 bE w' ⟨hH, hAbE, hNbE1⟩
 }
 refine arc (some 11) (fun K hK => ?_) ?_
 {
 (have hNbA1 := hH.2.2.2.1.lt; (try simp only [World.drew] at hNbA1))
 have zzbE := hAbE.lt
 go_simp
 first | refine oA hK ?_ (fun hH hA => ?_) | refine oD hK ?_ (fun hH hA => ?_)
 · exact ⟨hH.1.alloc _, hH.2.1.alloc _, hH.2.2.1.alloc _, hH.2.2.2.1.alloc _, bwA hH.2.2.2.2 (Nat.le_refl _) _⟩
 clear hK K
 (try simp only [cq])
 obtain ⟨bA, hbA⟩ : ∃ b, Blk.num hA = b := ⟨_, rfl⟩
 obtain ⟨W, hW⟩ : ∃ V, Blk.wld hA = V := ⟨_, rfl⟩
 simp only [Blk.num] at hbA
 simp only [Blk.wld] at hW
 first | replace hAbE := awB hW hAbE | replace hAbE := awD hW hAbE
 rw [hW] at hH hA ⊢
 rw [hbA] at hA ⊢
 replace hNbA1 : w.heap.size + 1 + 1 + 1 < bA := (by rw [← hbA]; exact hNbA1)
 have hPbAbE : bA ≠ bE := (by (try simp only [World.drew] at zzbE hbA); omega)
 clear hW hbA zzbE
 have hAbA := hA
 clear hA
 exact X1_01 bA bE W ⟨hH, hAbA, hAbE, hNbA1, hNbE1, hPbAbE⟩
 }
 exact AllReadyH.nil
 }
 }
 {
 intro bA W hall
 obtain ⟨hH, hAbA, hNbA1⟩ := hall
 (try dsimp only at hH)
 refine wpAnyH_ready (rs := [5, 13]) (by kernel_rfl) (by simp) ?_
 refine arc (some 18) (fun K hK => ?_) ?_
 {
 go_simp
 (refine (M1.out _).mono ?_; rintro e w' ⟨rfl, hb⟩)
 (replace hAbA := hAbA.call hb)
 refine hK.out _ _ ?_ ?_
 · (exact ⟨hH.1.call hb, hH.2.1.call hb, hH.2.2.1.call hb, hH.2.2.2.1.call hb, bwS hH.2.2.2.2 (Nat.le_refl _) hb⟩)
 (try clear hH); (try clear hb)
 intro hH
 clear hK K
 (try simp only [cq])
 exact X2_0 bA w' ⟨hH, hAbA, hNbA1⟩
 }
 refine arc (some 12) (fun K hK => ?_) ?_
 {
 (have hNbE1 := hH.2.2.2.1.lt; (try simp only [World.drew] at hNbE1))
 have zzbA := hAbA.lt
 go_simp
 first | refine oA hK ?_ (fun hH hA => ?_) | refine oD hK ?_ (fun hH hA => ?_)
 · exact ⟨hH.1.alloc _, hH.2.1.alloc _, hH.2.2.1.alloc _, hH.2.2.2.1.alloc _, bwA hH.2.2.2.2 (Nat.le_refl _) _⟩
 clear hK K
 (try simp only [cq])
 obtain ⟨bE, hbA⟩ : ∃ b, Blk.num hA = b := ⟨_, rfl⟩
 obtain ⟨W, hW⟩ : ∃ V, Blk.wld hA = V := ⟨_, rfl⟩
 simp only [Blk.num] at hbA
 simp only [Blk.wld] at hW
 first | replace hAbA := awB hW hAbA | replace hAbA := awD hW hAbA
 rw [hW] at hH hA ⊢
 rw [hbA] at hA ⊢
 replace hNbE1 : w.heap.size + 1 + 1 + 1 < bE := (by rw [← hbA]; exact hNbE1)
 have hPbAbE : bA ≠ bE := (by (try simp only [World.drew] at zzbA hbA); omega)
 clear hW hbA zzbA
 have hAbE := hA
 clear hA
 exact X1_01 bA bE W ⟨hH, hAbA, hAbE, hNbA1, hNbE1, hPbAbE⟩
 }
 exact AllReadyH.nil
 }
 }
 {
 intro bA bE W hall
 obtain ⟨hH, hAbA, hAbE, hNbA1, hNbE1, hPbAbE⟩ := hall
 (try dsimp only at hH)
 refine wpAnyH_ready (rs := [3]) (by kernel_rfl) (by simp) ?_
 refine arc1 (some 16) fun K hK => ?_
 go_simp
 (refine (T1.out _).mono ?_; rintro e w' ⟨rfl, hb⟩)
 (replace hAbA := hAbA.call hb)
 (replace hAbE := hAbE.call hb)
 refine hK.out _ _ ?_ ?_
 · (exact ⟨hH.1.call hb, hH.2.1.call hb, hH.2.2.1.call hb, hH.2.2.2.1.call hb, bwS hH.2.2.2.2 (Nat.le_refl _) hb⟩)
 (try clear hH); (try clear hb)
 intro hH
 clear hK K
 (try simp only [cq])
 refine tkY 4 (some 17) ?_ ?_ ?_
 rotate_left
 · intro w _; go_simp; (try with_reducible rfl)
 (try simp only [cq])
 exact X1_01 bA bE w' ⟨hH, hAbA, hAbE, hNbA1, hNbE1, hPbAbE⟩
 }
 }
 {
 intro bE W hall
 obtain ⟨hH, hAbE, hNbE1⟩ := hall
 (try dsimp only at hH)
 refine wpAnyH_ready (rs := [9, 12]) (by kernel_rfl) (by simp) ?_
 refine arc (some 22) (fun K hK => ?_) ?_
 {
 go_simp
 (refine (T2.out _).mono ?_; rintro e w' ⟨rfl, hb⟩)
 (replace hAbE := hAbE.call hb)
 refine hK.out _ _ ?_ ?_
 · (exact ⟨hH.1.call hb, hH.2.1.call hb, hH.2.2.1.call hb, hH.2.2.2.1.call hb, bwS hH.2.2.2.2 (Nat.le_refl _) hb⟩)
 (try clear hH); (try clear hb)
 intro hH
 clear hK K
 (try simp only [cq])
 refine tkY 10 (some 23) ?_ ?_ ?_
 rotate_left
 · intro w _; go_simp; (try with_reducible rfl)
 (try simp only [cq])
 exact X3_1 bE w' ⟨hH, hAbE, hNbE1⟩
 }
 refine arc (some 11) (fun K hK => ?_) ?_
 {
 (have hNbA1 := hH.2.2.2.1.lt; (try simp only [World.drew] at hNbA1))
 have zzbE := hAbE.lt
 go_simp
 first | refine oA hK ?_ (fun hH hA => ?_) | refine oD hK ?_ (fun hH hA => ?_)
 · exact ⟨hH.1.alloc _, hH.2.1.alloc _, hH.2.2.1.alloc _, hH.2.2.2.1.alloc _, bwA hH.2.2.2.2 (Nat.le_refl _) _⟩
 clear hK K
 (try simp only [cq])
 obtain ⟨bA, hbA⟩ : ∃ b, Blk.num hA = b := ⟨_, rfl⟩
 obtain ⟨W, hW⟩ : ∃ V, Blk.wld hA = V := ⟨_, rfl⟩
 simp only [Blk.num] at hbA
 simp only [Blk.wld] at hW
 first | replace hAbE := awB hW hAbE | replace hAbE := awD hW hAbE
 rw [hW] at hH hA ⊢
 rw [hbA] at hA ⊢
 replace hNbA1 : w.heap.size + 1 + 1 + 1 < bA := (by rw [← hbA]; exact hNbA1)
 have hPbAbE : bA ≠ bE := (by (try simp only [World.drew] at zzbE hbA); omega)
 clear hW hbA zzbE
 have hAbA := hA
 clear hA
 exact X2_01 bA bE W ⟨hH, hAbA, hAbE, hNbA1, hNbE1, hPbAbE⟩
 }
 exact AllReadyH.nil
 }
 }
 {
 intro bA W hall
 obtain ⟨hH, hAbA, hNbA1⟩ := hall
 (try dsimp only at hH)
 refine wpAnyH_ready (rs := [9, 13]) (by kernel_rfl) (by simp) ?_
 refine arc (some 22) (fun K hK => ?_) ?_
 {
 go_simp
 (refine (T2.out _).mono ?_; rintro e w' ⟨rfl, hb⟩)
 (replace hAbA := hAbA.call hb)
 refine hK.out _ _ ?_ ?_
 · (exact ⟨hH.1.call hb, hH.2.1.call hb, hH.2.2.1.call hb, hH.2.2.2.1.call hb, bwS hH.2.2.2.2 (Nat.le_refl _) hb⟩)
 (try clear hH); (try clear hb)
 intro hH
 clear hK K
 (try simp only [cq])
 refine tkY 10 (some 23) ?_ ?_ ?_
 rotate_left
 · intro w _; go_simp; (try with_reducible rfl)
 (try simp only [cq])
 exact X3_0 bA w' ⟨hH, hAbA, hNbA1⟩
 }
 refine arc (some 12) (fun K hK => ?_) ?_
 {
 (have hNbE1 := hH.2.2.2.1.lt; (try simp only [World.drew] at hNbE1))
 have zzbA := hAbA.lt
 go_simp
 first | refine oA hK ?_ (fun hH hA => ?_) | refine oD hK ?_ (fun hH hA => ?_)
 · exact ⟨hH.1.alloc _, hH.2.1.alloc _, hH.2.2.1.alloc _, hH.2.2.2.1.alloc _, bwA hH.2.2.2.2 (Nat.le_refl _) _⟩
 clear hK K
 (try simp only [cq])
 obtain ⟨bE, hbA⟩ : ∃ b, Blk.num hA = b := ⟨_, rfl⟩
 obtain ⟨W, hW⟩ : ∃ V, Blk.wld hA = V := ⟨_, rfl⟩
 simp only [Blk.num] at hbA
 simp only [Blk.wld] at hW
 first | replace hAbA := awB hW hAbA | replace hAbA := awD hW hAbA
 rw [hW] at hH hA ⊢
 rw [hbA] at hA ⊢
 replace hNbE1 : w.heap.size + 1 + 1 + 1 < bE := (by rw [← hbA]; exact hNbE1)
 have hPbAbE : bA ≠ bE := (by (try simp only [World.drew] at zzbA hbA); omega)
 clear hW hbA zzbA
 have hAbE := hA
 clear hA
 exact X2_01 bA bE W ⟨hH, hAbA, hAbE, hNbA1, hNbE1, hPbAbE⟩
 }
 exact AllReadyH.nil
 }
 }
 {
 intro bA bE W hall
 obtain ⟨hH, hAbA, hAbE, hNbA1, hNbE1, hPbAbE⟩ := hall
 (try dsimp only at hH)
 refine wpAnyH_ready (rs := [5]) (by kernel_rfl) (by simp) ?_
 refine arc1 (some 18) fun K hK => ?_
 go_simp
 (refine (M1.out _).mono ?_; rintro e w' ⟨rfl, hb⟩)
 (replace hAbA := hAbA.call hb)
 (replace hAbE := hAbE.call hb)
 refine hK.out _ _ ?_ ?_
 · (exact ⟨hH.1.call hb, hH.2.1.call hb, hH.2.2.1.call hb, hH.2.2.2.1.call hb, bwS hH.2.2.2.2 (Nat.le_refl _) hb⟩)
 (try clear hH); (try clear hb)
 intro hH
 clear hK K
 (try simp only [cq])
 exact X2_01 bA bE w' ⟨hH, hAbA, hAbE, hNbA1, hNbE1, hPbAbE⟩
 }
 }
 {
 intro bE W hall
 obtain ⟨hH, hAbE, hNbE1⟩ := hall
 (try dsimp only at hH)
 refine wpAnyH_ready (rs := [11, 12]) (by kernel_rfl) (by simp) ?_
 refine arc (some 24) (fun K hK => ?_) ?_
 {
 go_simp
 (refine (M2.out _).mono ?_; rintro e w' ⟨rfl, hb⟩)
 (replace hAbE := hAbE.call hb)
 refine hK.out _ _ ?_ ?_
 · (exact ⟨hH.1.call hb, hH.2.1.call hb, hH.2.2.1.call hb, hH.2.2.2.1.call hb, bwS hH.2.2.2.2 (Nat.le_refl _) hb⟩)
 (try clear hH); (try clear hb)
 intro hH
 clear hK K
 (try simp only [cq])
 exact X4_1 bE w' ⟨hH, hAbE, hNbE1⟩
 }
 refine arc (some 11) (fun K hK => ?_) ?_
 {
 (have hNbA1 := hH.2.2.2.1.lt; (try simp only [World.drew] at hNbA1))
 have zzbE := hAbE.lt
 go_simp
 first | refine oA hK ?_ (fun hH hA => ?_) | refine oD hK ?_ (fun hH hA => ?_)
 · exact ⟨hH.1.alloc _, hH.2.1.alloc _, hH.2.2.1.alloc _, hH.2.2.2.1.alloc _, bwA hH.2.2.2.2 (Nat.le_refl _) _⟩
 clear hK K
 (try simp only [cq])
 obtain ⟨bA, hbA⟩ : ∃ b, Blk.num hA = b := ⟨_, rfl⟩
 obtain ⟨W, hW⟩ : ∃ V, Blk.wld hA = V := ⟨_, rfl⟩
 simp only [Blk.num] at hbA
 simp only [Blk.wld] at hW
 first | replace hAbE := awB hW hAbE | replace hAbE := awD hW hAbE
 rw [hW] at hH hA ⊢
 rw [hbA] at hA ⊢
 replace hNbA1 : w.heap.size + 1 + 1 + 1 < bA := (by rw [← hbA]; exact hNbA1)
 have hPbAbE : bA ≠ bE := (by (try simp only [World.drew] at zzbE hbA); omega)
 clear hW hbA zzbE
 have hAbA := hA
 clear hA
 exact X3_01 bA bE W ⟨hH, hAbA, hAbE, hNbA1, hNbE1, hPbAbE⟩
 }
 exact AllReadyH.nil
 }
 }
 {
 intro bA W hall
 obtain ⟨hH, hAbA, hNbA1⟩ := hall
 (try dsimp only at hH)
 refine wpAnyH_ready (rs := [11, 13]) (by kernel_rfl) (by simp) ?_
 refine arc (some 24) (fun K hK => ?_) ?_
 {
 go_simp
 (refine (M2.out _).mono ?_; rintro e w' ⟨rfl, hb⟩)
 (replace hAbA := hAbA.call hb)
 refine hK.out _ _ ?_ ?_
 · (exact ⟨hH.1.call hb, hH.2.1.call hb, hH.2.2.1.call hb, hH.2.2.2.1.call hb, bwS hH.2.2.2.2 (Nat.le_refl _) hb⟩)
 (try clear hH); (try clear hb)
 intro hH
 clear hK K
 (try simp only [cq])
 exact X4_0 bA w' ⟨hH, hAbA, hNbA1⟩
 }
 refine arc (some 12) (fun K hK => ?_) ?_
 {
 (have hNbE1 := hH.2.2.2.1.lt; (try simp only [World.drew] at hNbE1))
 have zzbA := hAbA.lt
 go_simp
 first | refine oA hK ?_ (fun hH hA => ?_) | refine oD hK ?_ (fun hH hA => ?_)
 · exact ⟨hH.1.alloc _, hH.2.1.alloc _, hH.2.2.1.alloc _, hH.2.2.2.1.alloc _, bwA hH.2.2.2.2 (Nat.le_refl _) _⟩
 clear hK K
 (try simp only [cq])
 obtain ⟨bE, hbA⟩ : ∃ b, Blk.num hA = b := ⟨_, rfl⟩
 obtain ⟨W, hW⟩ : ∃ V, Blk.wld hA = V := ⟨_, rfl⟩
 simp only [Blk.num] at hbA
 simp only [Blk.wld] at hW
 first | replace hAbA := awB hW hAbA | replace hAbA := awD hW hAbA
 rw [hW] at hH hA ⊢
 rw [hbA] at hA ⊢
 replace hNbE1 : w.heap.size + 1 + 1 + 1 < bE := (by rw [← hbA]; exact hNbE1)
 have hPbAbE : bA ≠ bE := (by (try simp only [World.drew] at zzbA hbA); omega)
 clear hW hbA zzbA
 have hAbE := hA
 clear hA
 exact X3_01 bA bE W ⟨hH, hAbA, hAbE, hNbA1, hNbE1, hPbAbE⟩
 }
 exact AllReadyH.nil
 }
 }
 {
 intro bA bE W hall
 obtain ⟨hH, hAbA, hAbE, hNbA1, hNbE1, hPbAbE⟩ := hall
 (try dsimp only at hH)
 refine wpAnyH_ready (rs := [9]) (by kernel_rfl) (by simp) ?_
 refine arc1 (some 22) fun K hK => ?_
 go_simp
 (refine (T2.out _).mono ?_; rintro e w' ⟨rfl, hb⟩)
 (replace hAbA := hAbA.call hb)
 (replace hAbE := hAbE.call hb)
 refine hK.out _ _ ?_ ?_
 · (exact ⟨hH.1.call hb, hH.2.1.call hb, hH.2.2.1.call hb, hH.2.2.2.1.call hb, bwS hH.2.2.2.2 (Nat.le_refl _) hb⟩)
 (try clear hH); (try clear hb)
 intro hH
 clear hK K
 (try simp only [cq])
 refine tkY 10 (some 23) ?_ ?_ ?_
 rotate_left
 · intro w _; go_simp; (try with_reducible rfl)
 (try simp only [cq])
 exact X3_01 bA bE w' ⟨hH, hAbA, hAbE, hNbA1, hNbE1, hPbAbE⟩
 }
 }
 {
 intro bE W hall
 obtain ⟨hH, hAbE, hNbE1⟩ := hall
 (try dsimp only at hH)
 refine wpAnyH_ready (rs := [12]) (by kernel_rfl) (by simp) ?_
 refine arc1 (some 11) fun K hK => ?_
 (have hNbA1 := hH.2.2.2.1.lt; (try simp only [World.drew] at hNbA1))
 have zzbE := hAbE.lt
 go_simp
 first | refine oA hK ?_ (fun hH hA => ?_) | refine oD hK ?_ (fun hH hA => ?_)
 · exact ⟨hH.1.alloc _, hH.2.1.alloc _, hH.2.2.1.alloc _, hH.2.2.2.1.alloc _, bwA hH.2.2.2.2 (Nat.le_refl _) _⟩
 clear hK K
 (try simp only [cq])
 obtain ⟨bA, hbA⟩ : ∃ b, Blk.num hA = b := ⟨_, rfl⟩
 obtain ⟨W, hW⟩ : ∃ V, Blk.wld hA = V := ⟨_, rfl⟩
 simp only [Blk.num] at hbA
 simp only [Blk.wld] at hW
 first | replace hAbE := awB hW hAbE | replace hAbE := awD hW hAbE
 rw [hW] at hH hA ⊢
 rw [hbA] at hA ⊢
 replace hNbA1 : w.heap.size + 1 + 1 + 1 < bA := (by rw [← hbA]; exact hNbA1)
 have hPbAbE : bA ≠ bE := (by (try simp only [World.drew] at zzbE hbA); omega)
 clear hW hbA zzbE
 have hAbA := hA
 clear hA
 exact X4_01 bA bE W ⟨hH, hAbA, hAbE, hNbA1, hNbE1, hPbAbE⟩
 }
 }
 {
 intro bA W hall
 obtain ⟨hH, hAbA, hNbA1⟩ := hall
 (try dsimp only at hH)
 refine wpAnyH_ready (rs := [13]) (by kernel_rfl) (by simp) ?_
 refine arc1 (some 12) fun K hK => ?_
 (have hNbE1 := hH.2.2.2.1.lt; (try simp only [World.drew] at hNbE1))
 have zzbA := hAbA.lt
 go_simp
 first | refine oA hK ?_ (fun hH hA => ?_) | refine oD hK ?_ (fun hH hA => ?_)
 · exact ⟨hH.1.alloc _, hH.2.1.alloc _, hH.2.2.1.alloc _, hH.2.2.2.1.alloc _, bwA hH.2.2.2.2 (Nat.le_refl _) _⟩
 clear hK K
 (try simp only [cq])
 obtain ⟨bE, hbA⟩ : ∃ b, Blk.num hA = b := ⟨_, rfl⟩
 obtain ⟨W, hW⟩ : ∃ V, Blk.wld hA = V := ⟨_, rfl⟩
 simp only [Blk.num] at hbA
 simp only [Blk.wld] at hW
 first | replace hAbA := awB hW hAbA | replace hAbA := awD hW hAbA
 rw [hW] at hH hA ⊢
 rw [hbA] at hA ⊢
 replace hNbE1 : w.heap.size + 1 + 1 + 1 < bE := (by rw [← hbA]; exact hNbE1)
 have hPbAbE : bA ≠ bE := (by (try simp only [World.drew] at zzbA hbA); omega)
 clear hW hbA zzbA
 have hAbE := hA
 clear hA
 exact X4_01 bA bE W ⟨hH, hAbA, hAbE, hNbA1, hNbE1, hPbAbE⟩
 }
 }
 {
 intro bA bE W hall
 obtain ⟨hH, hAbA, hAbE, hNbA1, hNbE1, hPbAbE⟩ := hall
 (try dsimp only at hH)
 refine wpAnyH_ready (rs := [11]) (by kernel_rfl) (by simp) ?_
 refine arc1 (some 24) fun K hK => ?_
 go_simp
 (refine (M2.out _).mono ?_; rintro e w' ⟨rfl, hb⟩)
 (replace hAbA := hAbA.call hb)
 (replace hAbE := hAbE.call hb)
 refine hK.out _ _ ?_ ?_
 · (exact ⟨hH.1.call hb, hH.2.1.call hb, hH.2.2.1.call hb, hH.2.2.2.1.call hb, bwS hH.2.2.2.2 (Nat.le_refl _) hb⟩)
 (try clear hH); (try clear hb)
 intro hH
 clear hK K
 (try simp only [cq])
 exact X4_01 bA bE w' ⟨hH, hAbA, hAbE, hNbA1, hNbE1, hPbAbE⟩
 }
 }
 {
 intro bA bE W hall
 obtain ⟨hH, hAbA, hAbE, hNbA1, hNbE1, hPbAbE⟩ := hall
 (try dsimp only at hH)
 refine wpAnyH_ready (rs := [14]) (by kernel_rfl) (by simp) ?_
 refine arc1 none fun K hK => ?_
 obtain ⟨r0, r1, r2, r3⟩ := hAbA.c4
 have fr0 := hAbA.free 0
 have fr1 := hAbA.free 1
 have fr2 := hAbA.free 2
 have fr3 := hAbA.free 3
 have zR := hAbA.lt
 replace hAbE := hAbE.other4 (c := bA) (by omega) (.int .i64 y.b0) (.int .i64 y.w0) (.int .i64 y.q0) (.int .i64 y.s0)
 replace hAbA := hAbA.set4 (.int .i64 y.b0) (.int .i64 y.w0) (.int .i64 y.q0) (.int .i64 y.s0)
 go_simp
 refine hK.out _ _ ?_ ?_
 · with_reducible exact ⟨hH.1.other4 (by omega) _ _ _ _, hH.2.1.other4 (by omega) _ _ _ _, hH.2.2.1.other4 (by omega) _ _ _ _, hH.2.2.2.1.other4 (by omega) _ _ _ _, below_set4 hH.2.2.2.2 (by omega) _ _ _ _⟩
 (try clear hH); (try clear hb)
 intro hH
 clear r0 fr0 r1 fr1 r2 fr2 r3 fr3 zR
 clear hK K
 (try simp only [cq])
 refine wpAnyH_ready (rs := [15]) (by kernel_rfl) (by simp) ?_
 refine arc1 none fun K hK => ?_
 obtain ⟨r0, r1, r2, r3⟩ := hAbE.c4
 have fr0 := hAbE.free 0
 have fr1 := hAbE.free 1
 have fr2 := hAbE.free 2
 have fr3 := hAbE.free 3
 have zR := hAbE.lt
 replace hAbA := hAbA.other4 (c := bE) (by omega) (.int .i64 y.b1) (.int .i64 y.w1) (.int .i64 y.q1) (.int .i64 y.s1)
 replace hAbE := hAbE.set4 (.int .i64 y.b1) (.int .i64 y.w1) (.int .i64 y.q1) (.int .i64 y.s1)
 go_simp
 refine hK.out _ _ ?_ ?_
 · with_reducible exact ⟨hH.1.other4 (by omega) _ _ _ _, hH.2.1.other4 (by omega) _ _ _ _, hH.2.2.1.other4 (by omega) _ _ _ _, hH.2.2.2.1.other4 (by omega) _ _ _ _, below_set4 hH.2.2.2.2 (by omega) _ _ _ _⟩
 (try clear hH); (try clear hb)
 intro hH
 clear r0 fr0 r1 fr1 r2 fr2 r3 fr3 zR
 clear hK K
 (try simp only [cq])
 refine wpAnyH_done (by kernel_rfl) ?_ _
 (try dsimp only [Act.put])
 (try simp only [cq])
 go_wp2_with fail
 go_meet
 exact ⟨bA, bE, rfl, rfl, hAbA, hAbE, hNbA1, hNbE1, hH.1, hH.2.1, hH.2.2.1, hH.2.2.2.1, hH.2.2.2.2⟩
 } )
  case rest =>
    obtain ⟨bC, bE, rfl, rfl, mC, mE, nC, nE, j0, j1, j2, j3, jB⟩ := hcut

    obtain ⟨a0, a1, a2, a3⟩ := mC.c4
    obtain ⟨h0, h1, h2, h3⟩ := mE.c4
    have zC := mC.lt
    have zE := mE.lt
    obtain ⟨x0, x1, x2, x3, x4, x5, x6, x7, hR⟩ := j3
    obtain ⟨r0, r1, r2, r3, r4, r5, r6, r7⟩ := hR.c8
    have f0 := hR.free 0
    have f1 := hR.free 1
    have f2 := hR.free 2
    have f3 := hR.free 3
    have f4 := hR.free 4
    have f5 := hR.free 5
    have f6 := hR.free 6
    have f7 := hR.free 7
    have zR := hR.lt
    have HQ := Lib.hid (hR.set8 (.int .i64 y.b0) (.int .i64 y.b1) (.int .i64 y.w0) (.int .i64 y.w1) (.int .i64 y.q0) (.int .i64 y.q1) (.int .i64 y.s0) (.int .i64 y.s1)).c8
    go_wp2
    obtain ⟨z0, z1, z2, z3, z4, z5, z6, z7⟩ := HQ.out
    refine bodyPost_ret (v := .agg #[.int .i64 y.b0, .int .i64 y.b1, .int .i64 y.w0, .int .i64 y.w1, .int .i64 y.q0, .int .i64 y.q1, .int .i64 y.s0, .int .i64 y.s1]) (by simp [results, Tryz.results87, go_sem, z0, z1, z2, z3, z4, z5, z6, z7]) rfl ⟨rfl, ?_⟩
    iterate 8 refine Below.setCell ?_ (by simp; omega) _
    exact jB
end Go.Proofs.YtdbiijldincoiaaGreat

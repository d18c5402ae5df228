/-
  Standard (package fuel).
-/
import Derived.Test.YtegdflikeoiaaaaTail
import Derived.Test.YtegdflikeoiaaaaLas
import Derived.Test.YtegdflikeoiaaaaVlm
import Derived.Test.YtegdflikeoiaaaaShelf
set_option linter.unusedVariables false
set_option linter.unusedSimpArgs false
namespace Go.Proofs.Ytegdflikeoiaaaa
open Go.RowKit

def shk (b t : Int) : Int := b * (t - 150)
theorem shk_bd {b t : Int} (hb0 : 0 ≤ b) (hb1 : b ≤ 200) (h0 : -1000 ≤ t) (h1 : t ≤ 1000) : -230000 ≤ shk b t ∧ shk b t ≤ 230000 := by
  unfold shk
  constructor
  · have h2 : b * (-1150) ≤ b * (t - 150) := Int.mul_le_mul_of_nonneg_left (by omega) hb0
    omega
  · have h2 : b * (t - 150) ≤ b * 1150 := Int.mul_le_mul_of_nonneg_left (by omega) hb0
    omega
theorem shrinks_any (b t : Int) (hb0 : 0 ≤ b) (hb1 : b ≤ 200) (h0 : -1000 ≤ t) (h1 : t ≤ 1000) (w : World) :
    Calls Try.prog 119 #[.int .i64 b, .int .i64 t] w fun e w' => e = .returned (.int .i64 (shk b t)) ∧ w = w' := by
  have hz := shk_bd hb0 hb1 h0 h1
  have e1 : IntKind.i64.wrap (t - 150) = t - 150 := IntWalk.i64_in _ (by omega)
  have e2 : IntKind.i64.wrap (b * (t - 150)) = shk b t := IntWalk.i64_in _ (show _ ∧ _ from by unfold shk at hz; omega)
  go_enter Try.func119, Try.ntmps119
  go_wp2
  go_ret
  exact ⟨rfl, rfl⟩
def max4 (a b c d : Int) : Int := max (max (max a b) c) d
def min4 (a b c d : Int) : Int := min (min (min a b) c) d
theorem max4_any (b cap : Nat) (x0 x1 x2 x3 : Int) (w : World) {t : TypeId} (h : Blk w b #[.int .i64 x0, .int .i64 x1, .int .i64 x2, .int .i64 x3] t) :
    Calls Try.prog 120 #[.slice (some ⟨b, 0, none⟩) 4 cap] w fun e w' => e = .returned (.int .i64 (max4 x0 x1 x2 x3)) ∧ w = w' := by
  refine (Try.slices_Max_int b 0 4 cap [x0, x1, x2, x3] w (by omega) (by simp) (by omega) (fun j hj => by
    match j, hj with
    | 0, _ => exact h.cell 0 rfl
    | 1, _ => exact h.cell 1 rfl
    | 2, _ => exact h.cell 2 rfl
    | 3, _ => exact h.cell 3 rfl
    | k + 4, hk => exact absurd hk (by simp))).mono ?_
  rintro e w' ⟨rfl, rfl⟩
  exact ⟨by simp [Go.Lib.maxOf, max4], rfl⟩
theorem min4_any (b cap : Nat) (x0 x1 x2 x3 : Int) (w : World) {t : TypeId} (h : Blk w b #[.int .i64 x0, .int .i64 x1, .int .i64 x2, .int .i64 x3] t) :
    Calls Try.prog 121 #[.slice (some ⟨b, 0, none⟩) 4 cap] w fun e w' => e = .returned (.int .i64 (min4 x0 x1 x2 x3)) ∧ w = w' := by
  refine (Try.slices_Min_int b 0 4 cap [x0, x1, x2, x3] w (by omega) (by simp) (by omega) (fun j hj => by
    match j, hj with
    | 0, _ => exact h.cell 0 rfl
    | 1, _ => exact h.cell 1 rfl
    | 2, _ => exact h.cell 2 rfl
    | 3, _ => exact h.cell 3 rfl
    | k + 4, hk => exact absurd hk (by simp))).mono ?_
  rintro e w' ⟨rfl, rfl⟩
  exact ⟨by simp [Go.Lib.minOf, min4], rfl⟩
theorem max4_bd {a b c d : Int} {m : Int} (ha : -m ≤ a ∧ a ≤ m) (hb : -m ≤ b ∧ b ≤ m) (hc : -m ≤ c ∧ c ≤ m) (hd : -m ≤ d ∧ d ≤ m) : -m ≤ max4 a b c d ∧ max4 a b c d ≤ m := by unfold max4; omega
theorem min4_bd {a b c d : Int} {m : Int} (ha : -m ≤ a ∧ a ≤ m) (hb : -m ≤ b ∧ b ≤ m) (hc : -m ≤ c ∧ c ≤ m) (hd : -m ≤ d ∧ d ≤ m) : -m ≤ min4 a b c d ∧ min4 a b c d ≤ m := by unfold min4; omega
def shMx (b0 b1 t0 t1 : Int) : Int := max4 (shk b0 t0) (shk b0 t1) (shk b1 t0) (shk b1 t1)
def shMn (b0 b1 t0 t1 : Int) : Int := min4 (shk b0 t0) (shk b0 t1) (shk b1 t0) (shk b1 t1)
def stLo (l0 b0 b1 t0 t1 : Int) : Int := l0 * (1000000 - shMx b0 b1 t0 t1) / 1000000
def stHi (l1 b0 b1 t0 t1 : Int) : Int := upQ (l1 * (1000000 - shMn b0 b1 t0 t1)) 1000000
theorem left_bd {l x : Int} (h0 : 0 ≤ l) (h1 : l ≤ 1000000000) (hx : -230000 ≤ x ∧ x ≤ 230000) : 0 ≤ l * (1000000 - x) ∧ l * (1000000 - x) ≤ 1230000000000000 := by
  constructor
  · exact Int.mul_nonneg h0 (by omega)
  · exact Int.le_trans (Int.mul_le_mul h1 (show 1000000 - x ≤ 1230000 by omega) (by omega) (by omega)) (by decide)

set_option maxRecDepth 100000 in
set_option maxHeartbeats 4000000 in
theorem std_ok (l0 l1 b0 b1 t0 t1 : Int) (hl0 : 0 ≤ l0) (hl1 : l0 ≤ l1) (hl2 : l1 ≤ 1000000000) (hb0 : 0 ≤ b0) (hb1 : b0 ≤ b1) (hb2 : b1 ≤ 200) (ht0 : -1000 ≤ t0) (ht1 : t0 ≤ t1) (ht2 : t1 ≤ 1000) (w : World) :
    Calls Try.prog 80 #[.agg #[.int .i64 l0, .int .i64 l1], .agg #[.int .i64 b0, .int .i64 b1], .agg #[.int .i64 t0, .int .i64 t1]] w fun e w' => e = .returned (.agg #[.int .i64 (stLo l0 b0 b1 t0 t1), .int .i64 (stHi l1 b0 b1 t0 t1)]) ∧ Below w.heap.size w w' := by
  have S0 := Lib.hid (fun (W : World) => shrinks_any b0 t0 hb0 (by omega) ht0 (by omega) W)
  have S1 := Lib.hid (fun (W : World) => shrinks_any b0 t1 hb0 (by omega) (by omega) ht2 W)
  have S2 := Lib.hid (fun (W : World) => shrinks_any b1 t0 (by omega) hb2 ht0 (by omega) W)
  have S3 := Lib.hid (fun (W : World) => shrinks_any b1 t1 (by omega) hb2 (by omega) ht2 W)
  have q0 := shk_bd hb0 (show b0 ≤ 200 by omega) ht0 (show t0 ≤ 1000 by omega)
  have q1 := shk_bd hb0 (show b0 ≤ 200 by omega) (show -1000 ≤ t1 by omega) ht2
  have q2 := shk_bd (show 0 ≤ b1 by omega) hb2 ht0 (show t0 ≤ 1000 by omega)
  have q3 := shk_bd (show 0 ≤ b1 by omega) hb2 (show -1000 ≤ t1 by omega) ht2
  have hR1 : stLo l0 b0 b1 t0 t1 = l0 * (1000000 - max4 (shk b0 t0) (shk b0 t1) (shk b1 t0) (shk b1 t1)) / 1000000 := rfl
  have hR2 : stHi l1 b0 b1 t0 t1 = upQ (l1 * (1000000 - min4 (shk b0 t0) (shk b0 t1) (shk b1 t0) (shk b1 t1))) 1000000 := rfl
  have qM := max4_bd q0 q1 q2 q3
  have qN := min4_bd q0 q1 q2 q3
  generalize shk b0 t0 = z0 at S0 q0 hR1 hR2 qM qN
  generalize shk b0 t1 = z1 at S1 q1 hR1 hR2 qM qN
  generalize shk b1 t0 = z2 at S2 q2 hR1 hR2 qM qN
  generalize shk b1 t1 = z3 at S3 q3 hR1 hR2 qM qN
  have HM := Lib.hid (fun (W : World) (b cap : Nat) (t : TypeId) (h : Blk W b #[.int .i64 z0, .int .i64 z1, .int .i64 z2, .int .i64 z3] t) => max4_any b cap z0 z1 z2 z3 W h)
  have HN := Lib.hid (fun (W : World) (b cap : Nat) (t : TypeId) (h : Blk W b #[.int .i64 z0, .int .i64 z1, .int .i64 z2, .int .i64 z3] t) => min4_any b cap z0 z1 z2 z3 W h)
  generalize max4 z0 z1 z2 z3 = mx at HM hR1 qM
  generalize min4 z0 z1 z2 z3 = mn at HN hR2 qN
  have p0 := left_bd hl0 (show l0 ≤ 1000000000 by omega) qM
  have p1 := left_bd (show 0 ≤ l1 by omega) hl2 qN
  have e1 : IntKind.i64.wrap (1000000 - mx) = 1000000 - mx := IntWalk.i64_in _ (by omega)
  have e2 : IntKind.i64.wrap (1000000 - mn) = 1000000 - mn := IntWalk.i64_in _ (by omega)
  have e3 : IntKind.i64.wrap (l0 * (1000000 - mx)) = l0 * (1000000 - mx) := IntWalk.i64_in _ (by omega)
  have e4 : IntKind.i64.wrap (l1 * (1000000 - mn)) = l1 * (1000000 - mn) := IntWalk.i64_in _ (by omega)
  obtain ⟨u0, hu0⟩ : ∃ u, l0 * (1000000 - mx) = u := ⟨_, rfl⟩
  obtain ⟨u1, hu1⟩ : ∃ u, l1 * (1000000 - mn) = u := ⟨_, rfl⟩
  rw [hu0] at hR1 p0
  rw [hu1] at hR2 p1
  replace e3 := e3.trans hu0
  replace e4 := e4.trans hu1
  have F0 := Lib.hid (fun (W : World) => fraction_any u0 1000000 p0.1 (by omega) (by omega) (by omega) W)
  have F1 := Lib.hid (fun (W : World) => fraction_any u1 1000000 p1.1 (by omega) (by omega) (by omega) W)
  rw [← hR1] at F0
  rw [← hR2] at F1
  generalize stLo l0 b0 b1 t0 t1 = sA at F0 ⊢
  generalize stHi l1 b0 b1 t0 t1 = sB at F1 ⊢
  clear hR1 hR2 hu0 hu1 p0 p1 q0 q1 q2 q3 qM qN hl0 hl1 hl2 hb0 hb1 hb2 ht0 ht1 ht2
  generalize u0 / 1000000 = v0 at F0
  generalize upQ u0 1000000 = v1 at F0
  generalize u1 / 1000000 = v2 at F1
  generalize upQ u1 1000000 = v3 at F1
  have jL := ((((Blk.new w #[.int .i64 l0, .int .i64 l1] 26).alloc (.cells #[.int .i64 b0, .int .i64 b1] 26)).alloc (.cells #[.int .i64 t0, .int .i64 t1] 26))).alloc (.cells #[.int .i64 0, .int .i64 0] 26)
  have jX := (((Blk.new1 w (.cells #[.int .i64 l0, .int .i64 l1] 26) #[.int .i64 b0, .int .i64 b1] 26).alloc (.cells #[.int .i64 t0, .int .i64 t1] 26))).alloc (.cells #[.int .i64 0, .int .i64 0] 26)
  have jT := (Blk.new2 w (.cells #[.int .i64 l0, .int .i64 l1] 26) (.cells #[.int .i64 b0, .int .i64 b1] 26) #[.int .i64 t0, .int .i64 t1] 26).alloc (.cells #[.int .i64 0, .int .i64 0] 26)
  have jR := Blk.new2 (w.alloc (.cells #[.int .i64 l0, .int .i64 l1] 26)) (.cells #[.int .i64 b0, .int .i64 b1] 26) (.cells #[.int .i64 t0, .int .i64 t1] 26) #[.int .i64 0, .int .i64 0] 26
  simp only [World.size_alloc] at jR
  have jB : Below w.heap.size w ((((w.alloc (.cells #[.int .i64 l0, .int .i64 l1] 26)).alloc (.cells #[.int .i64 b0, .int .i64 b1] 26)).alloc (.cells #[.int .i64 t0, .int .i64 t1] 26)).alloc (.cells #[.int .i64 0, .int .i64 0] 26)) := by (repeat (first | exact Below.refl _ _ | assumption | refine Below.drew ?_ | refine Below.drewN ?_ _ | refine blT ?_ | refine blU ?_))
  go_enter Try.func80, Try.ntmps80
  go_wp2_with fail
  obtain ⟨U0, hU0⟩ : ∃ V, Blk.wld jL = V := ⟨_, rfl⟩
  simp only [Blk.wld] at hU0
  rw [hU0] at jL jX jT jR jB ⊢
  clear hU0
  go_cut [7] (fun s7 wx => ∃ bA : Nat, s7 = .slice (some ⟨bA, 0, none⟩) 4 4 ∧ w.heap.size + 1 + 1 + 1 < bA ∧ Blk wx bA #[.int .i64 z0, .int .i64 z1, .int .i64 z2, .int .i64 z3] 3 ∧ (Blk wx w.heap.size #[.int .i64 l0, .int .i64 l1] 26 ∧ Blk wx (w.heap.size + 1) #[.int .i64 b0, .int .i64 b1] 26 ∧ Blk wx (w.heap.size + 1 + 1) #[.int .i64 t0, .int .i64 t1] 26 ∧ Two wx (w.heap.size + 1 + 1 + 1) 26 ∧ Below w.heap.size w wx))
  case first =>
    (
 refine wp_region_held_drew (S := (fun wx => Blk wx w.heap.size #[.int .i64 l0, .int .i64 l1] 26 ∧ Blk wx (w.heap.size + 1) #[.int .i64 b0, .int .i64 b1] 26 ∧ Blk wx (w.heap.size + 1 + 1) #[.int .i64 t0, .int .i64 t1] 26 ∧ Two wx (w.heap.size + 1 + 1 + 1) 26 ∧ Below w.heap.size w wx)) (by kernel_rfl) ?_ (fun hH => ?_)
 · (try dsimp only); (exact ⟨jL.drew, jX.drew, jT.drew, ⟨_, _, jR.drew⟩, jB.drew⟩)
 refine tkY 0 (some 8) ?_ ?_ ?_
 rotate_left
 · intro w hS0; (try dsimp only at hS0); obtain ⟨kL, kX, kT, _, _⟩ := hS0; obtain ⟨c0, c1⟩ := kL.c2; obtain ⟨d0, d1⟩ := kX.c2; obtain ⟨g0, g1⟩ := kT.c2; have y1 := kL.lt; have y2 := kX.lt; have y3 := kT.lt;go_simp; (try with_reducible rfl)
 (try simp only [cq])
 refine tkY 1 (some 9) ?_ ?_ ?_
 rotate_left
 · intro w hS0; (try dsimp only at hS0); obtain ⟨kL, kX, kT, _, _⟩ := hS0; obtain ⟨c0, c1⟩ := kL.c2; obtain ⟨d0, d1⟩ := kX.c2; obtain ⟨g0, g1⟩ := kT.c2; have y1 := kL.lt; have y2 := kX.lt; have y3 := kT.lt;go_simp; (try with_reducible rfl)
 (try simp only [cq])
 refine tkY 2 (some 10) ?_ ?_ ?_
 rotate_left
 · intro w hS0; (try dsimp only at hS0); obtain ⟨kL, kX, kT, _, _⟩ := hS0; obtain ⟨c0, c1⟩ := kL.c2; obtain ⟨d0, d1⟩ := kX.c2; obtain ⟨g0, g1⟩ := kT.c2; have y1 := kL.lt; have y2 := kX.lt; have y3 := kT.lt;go_simp; (try with_reducible rfl)
 (try simp only [cq])
 refine tkY 3 (some 11) ?_ ?_ ?_
 rotate_left
 · intro w hS0; (try dsimp only at hS0); obtain ⟨kL, kX, kT, _, _⟩ := hS0; obtain ⟨c0, c1⟩ := kL.c2; obtain ⟨d0, d1⟩ := kX.c2; obtain ⟨g0, g1⟩ := kT.c2; have y1 := kL.lt; have y2 := kX.lt; have y3 := kT.lt;go_simp; (try with_reducible rfl)
 (try simp only [cq])
 refine tkY 5 (some 13) ?_ ?_ ?_
 rotate_left
 · intro w hS0; (try dsimp only at hS0); obtain ⟨kL, kX, kT, _, _⟩ := hS0; obtain ⟨c0, c1⟩ := kL.c2; obtain ⟨d0, d1⟩ := kX.c2; obtain ⟨g0, g1⟩ := kT.c2; have y1 := kL.lt; have y2 := kX.lt; have y3 := kT.lt;go_simp; (try with_reducible rfl)
 (try simp only [cq])
 refine tkY 6 (some 14) ?_ ?_ ?_
 rotate_left
 · intro w hS0; (try dsimp only at hS0); obtain ⟨kL, kX, kT, _, _⟩ := hS0; obtain ⟨c0, c1⟩ := kL.c2; obtain ⟨d0, d1⟩ := kX.c2; obtain ⟨g0, g1⟩ := kT.c2; have y1 := kL.lt; have y2 := kX.lt; have y3 := kT.lt;go_simp; (try with_reducible rfl)
 (try simp only [cq])
 refine tkY 7 (some 15) ?_ ?_ ?_
 rotate_left
 · intro w hS0; (try dsimp only at hS0); obtain ⟨kL, kX, kT, _, _⟩ := hS0; obtain ⟨c0, c1⟩ := kL.c2; obtain ⟨d0, d1⟩ := kX.c2; obtain ⟨g0, g1⟩ := kT.c2; have y1 := kL.lt; have y2 := kX.lt; have y3 := kT.lt;go_simp; (try with_reducible rfl)
 (try simp only [cq])
 refine tkY 8 (some 16) ?_ ?_ ?_
 rotate_left
 · intro w hS0; (try dsimp only at hS0); obtain ⟨kL, kX, kT, _, _⟩ := hS0; obtain ⟨c0, c1⟩ := kL.c2; obtain ⟨d0, d1⟩ := kX.c2; obtain ⟨g0, g1⟩ := kT.c2; have y1 := kL.lt; have y2 := kX.lt; have y3 := kT.lt;go_simp; (try with_reducible rfl)
 (try simp only [cq])
 refine tkY 10 (some 18) ?_ ?_ ?_
 rotate_left
 · intro w hS0; (try dsimp only at hS0); obtain ⟨kL, kX, kT, _, _⟩ := hS0; obtain ⟨c0, c1⟩ := kL.c2; obtain ⟨d0, d1⟩ := kX.c2; obtain ⟨g0, g1⟩ := kT.c2; have y1 := kL.lt; have y2 := kX.lt; have y3 := kT.lt;go_simp; (try with_reducible rfl)
 (try simp only [cq])
 refine tkY 11 (some 19) ?_ ?_ ?_
 rotate_left
 · intro w hS0; (try dsimp only at hS0); obtain ⟨kL, kX, kT, _, _⟩ := hS0; obtain ⟨c0, c1⟩ := kL.c2; obtain ⟨d0, d1⟩ := kX.c2; obtain ⟨g0, g1⟩ := kT.c2; have y1 := kL.lt; have y2 := kX.lt; have y3 := kT.lt;go_simp; (try with_reducible rfl)
 (try simp only [cq])
 refine tkY 12 (some 20) ?_ ?_ ?_
 rotate_left
 · intro w hS0; (try dsimp only at hS0); obtain ⟨kL, kX, kT, _, _⟩ := hS0; obtain ⟨c0, c1⟩ := kL.c2; obtain ⟨d0, d1⟩ := kX.c2; obtain ⟨g0, g1⟩ := kT.c2; have y1 := kL.lt; have y2 := kX.lt; have y3 := kT.lt;go_simp; (try with_reducible rfl)
 (try simp only [cq])
 refine tkY 13 (some 21) ?_ ?_ ?_
 rotate_left
 · intro w hS0; (try dsimp only at hS0); obtain ⟨kL, kX, kT, _, _⟩ := hS0; obtain ⟨c0, c1⟩ := kL.c2; obtain ⟨d0, d1⟩ := kX.c2; obtain ⟨g0, g1⟩ := kT.c2; have y1 := kL.lt; have y2 := kX.lt; have y3 := kT.lt;go_simp; (try with_reducible rfl)
 (try simp only [cq])
 refine tkY 15 (some 23) ?_ ?_ ?_
 rotate_left
 · intro w hS0; (try dsimp only at hS0); obtain ⟨kL, kX, kT, _, _⟩ := hS0; obtain ⟨c0, c1⟩ := kL.c2; obtain ⟨d0, d1⟩ := kX.c2; obtain ⟨g0, g1⟩ := kT.c2; have y1 := kL.lt; have y2 := kX.lt; have y3 := kT.lt;go_simp; (try with_reducible rfl)
 (try simp only [cq])
 refine tkY 16 (some 24) ?_ ?_ ?_
 rotate_left
 · intro w hS0; (try dsimp only at hS0); obtain ⟨kL, kX, kT, _, _⟩ := hS0; obtain ⟨c0, c1⟩ := kL.c2; obtain ⟨d0, d1⟩ := kX.c2; obtain ⟨g0, g1⟩ := kT.c2; have y1 := kL.lt; have y2 := kX.lt; have y3 := kT.lt;go_simp; (try with_reducible rfl)
 (try simp only [cq])
 refine tkY 17 (some 25) ?_ ?_ ?_
 rotate_left
 · intro w hS0; (try dsimp only at hS0); obtain ⟨kL, kX, kT, _, _⟩ := hS0; obtain ⟨c0, c1⟩ := kL.c2; obtain ⟨d0, d1⟩ := kX.c2; obtain ⟨g0, g1⟩ := kT.c2; have y1 := kL.lt; have y2 := kX.lt; have y3 := kT.lt;go_simp; (try with_reducible rfl)
 (try simp only [cq])
 refine tkY 18 (some 26) ?_ ?_ ?_
 rotate_left
 · intro w hS0; (try dsimp only at hS0); obtain ⟨kL, kX, kT, _, _⟩ := hS0; obtain ⟨c0, c1⟩ := kL.c2; obtain ⟨d0, d1⟩ := kX.c2; obtain ⟨g0, g1⟩ := kT.c2; have y1 := kL.lt; have y2 := kX.lt; have y3 := kT.lt;go_simp; (try with_reducible rfl)
 (try simp only [cq])
 refine wpAnyH_ready (rs := [4]) (by kernel_rfl) (by simp) ?_
 refine arc1 (some 12) fun K hK => ?_
 go_simp
 (refine (S0.out _).mono ?_; rintro e w' ⟨rfl, rfl⟩)
 refine hK.out _ _ ?_ (fun hH => ?_)
 · (exact hH)
 clear hK K
 (try simp only [cq])
 refine wpAnyH_ready (rs := [9]) (by kernel_rfl) (by simp) ?_
 refine arc1 (some 17) fun K hK => ?_
 go_simp
 (refine (S1.out _).mono ?_; rintro e w' ⟨rfl, rfl⟩)
 refine hK.out _ _ ?_ (fun hH => ?_)
 · (exact hH)
 clear hK K
 (try simp only [cq])
 refine wpAnyH_ready (rs := [14]) (by kernel_rfl) (by simp) ?_
 refine arc1 (some 22) fun K hK => ?_
 go_simp
 (refine (S2.out _).mono ?_; rintro e w' ⟨rfl, rfl⟩)
 refine hK.out _ _ ?_ (fun hH => ?_)
 · (exact hH)
 clear hK K
 (try simp only [cq])
 refine wpAnyH_ready (rs := [19]) (by kernel_rfl) (by simp) ?_
 refine arc1 (some 27) fun K hK => ?_
 go_simp
 (refine (S3.out _).mono ?_; rintro e w' ⟨rfl, rfl⟩)
 refine hK.out _ _ ?_ (fun hH => ?_)
 · (exact hH)
 clear hK K
 (try simp only [cq])
 refine wpAnyH_ready (rs := [20]) (by kernel_rfl) (by simp) ?_
 refine arc1 (some 28) fun K hK => ?_
 obtain ⟨_, _, hzR⟩ := hH.2.2.2.1
 replace hzR := hzR.lt
 go_simp
 first | refine oA hK ?_ (fun hH hA => ?_) | refine oD hK ?_ (fun hH hA => ?_)
 · exact ⟨hH.1.alloc _, hH.2.1.alloc _, hH.2.2.1.alloc _, hH.2.2.2.1.alloc _, bwA hH.2.2.2.2 (Nat.le_refl _) _⟩
 clear hK K
 (try simp only [cq])
 refine tkY 21 (some 7) ?_ ?_ ?_
 rotate_left
 · intro w _; go_simp; (try with_reducible rfl)
 (try simp only [cq])
 refine wpAnyH_done (by kernel_rfl) ?_ _
 (try dsimp only [Act.put])
 (try simp only [cq])
 go_wp2_with fail
 go_meet
 exact ⟨_, rfl, hzR, hA, hH⟩ )
  case rest =>
    clear jL jX jT jR jB S0 S1 S2 S3
    obtain ⟨bA, rfl, zA, kA, jL, jX, jT, jR, jB⟩ := hcut
    go_upto_region 2 with fail
    (
 refine wp_region_held_drew (S := (fun wx => (Blk wx w.heap.size #[.int .i64 l0, .int .i64 l1] 26 ∧ Blk wx (w.heap.size + 1) #[.int .i64 b0, .int .i64 b1] 26 ∧ Blk wx (w.heap.size + 1 + 1) #[.int .i64 t0, .int .i64 t1] 26 ∧ Two wx (w.heap.size + 1 + 1 + 1) 26 ∧ Below w.heap.size w wx) ∧ Blk wx bA #[.int .i64 z0, .int .i64 z1, .int .i64 z2, .int .i64 z3] 3)) (by kernel_rfl) ?_ (fun hH => ?_)
 · (try dsimp only); (exact ⟨⟨jL.drew, jX.drew, jT.drew, (by obtain ⟨_, _, h⟩ := jR; exact ⟨_, _, h.drew⟩), jB.drew⟩, kA.drew⟩)
 refine tkY 0 (some 29) ?_ ?_ ?_
 rotate_left
 · intro w hS0; (try dsimp only at hS0); obtain ⟨⟨kL, kX, kT, _, _⟩, kA⟩ := hS0; obtain ⟨c0, c1⟩ := kL.c2; have y1 := kL.lt;go_simp; (try with_reducible rfl)
 (try simp only [cq])
 refine tkY 1 (some 30) ?_ ?_ ?_
 rotate_left
 · intro w hS0; (try dsimp only at hS0); obtain ⟨⟨kL, kX, kT, _, _⟩, kA⟩ := hS0; obtain ⟨c0, c1⟩ := kL.c2; have y1 := kL.lt;go_simp; (try with_reducible rfl)
 (try simp only [cq])
 refine tkY 2 (some 31) ?_ ?_ ?_
 rotate_left
 · intro w _; go_simp; (try with_reducible rfl)
 (try simp only [cq])
 refine tkY 8 (some 37) ?_ ?_ ?_
 rotate_left
 · intro w hS0; (try dsimp only at hS0); obtain ⟨⟨kL, kX, kT, _, _⟩, kA⟩ := hS0; obtain ⟨c0, c1⟩ := kL.c2; have y1 := kL.lt;go_simp; (try with_reducible rfl)
 (try simp only [cq])
 refine tkY 9 (some 38) ?_ ?_ ?_
 rotate_left
 · intro w hS0; (try dsimp only at hS0); obtain ⟨⟨kL, kX, kT, _, _⟩, kA⟩ := hS0; obtain ⟨c0, c1⟩ := kL.c2; have y1 := kL.lt;go_simp; (try with_reducible rfl)
 (try simp only [cq])
 refine tkY 10 (some 39) ?_ ?_ ?_
 rotate_left
 · intro w _; go_simp; (try with_reducible rfl)
 (try simp only [cq])
 refine wpAnyH_ready (rs := [3]) (by kernel_rfl) (by simp) ?_
 refine arc1 (some 32) fun K hK => ?_
 go_simp
 (refine (HM.out _ _ _ _ hH.2).mono ?_; rintro e w' ⟨rfl, rfl⟩)
 refine hK.out _ _ ?_ ?_
 · (first | exact hH | exact ⟨⟨hH.1.1.call hb, hH.1.2.1.call hb, hH.1.2.2.1.call hb, hH.1.2.2.2.1.call hb, bwS hH.1.2.2.2.2 (Nat.le_refl _) hb⟩, hH.2.call hb⟩)
 (try clear hH); (try clear hb)
 intro hH
 clear hK K
 (try simp only [cq])
 refine tkY 4 (some 33) ?_ ?_ ?_
 rotate_left
 · intro w _; go_simp; (try with_reducible rfl)
 (try simp only [cq])
 refine tkY 5 (some 34) ?_ ?_ ?_
 rotate_left
 · intro w _; go_simp; (try with_reducible rfl)
 (try simp only [cq])
 refine wpAnyH_ready (rs := [6]) (by kernel_rfl) (by simp) ?_
 refine arc1 (some 35) fun K hK => ?_
 go_simp
 (refine (F0.out _).mono ?_; rintro e w' ⟨rfl, hb⟩)
 refine hK.out _ _ ?_ ?_
 · (first | exact hH | exact ⟨⟨hH.1.1.call hb, hH.1.2.1.call hb, hH.1.2.2.1.call hb, hH.1.2.2.2.1.call hb, bwS hH.1.2.2.2.2 (Nat.le_refl _) hb⟩, hH.2.call hb⟩)
 (try clear hH); (try clear hb)
 intro hH
 clear hK K
 (try simp only [cq])
 refine tkY 7 (some 36) ?_ ?_ ?_
 rotate_left
 · intro w _; go_simp; (try with_reducible rfl)
 (try simp only [cq])
 refine wpAnyH_ready (rs := [11]) (by kernel_rfl) (by simp) ?_
 refine arc1 (some 40) fun K hK => ?_
 go_simp
 (refine (HN.out _ _ _ _ hH.2).mono ?_; rintro e w' ⟨rfl, rfl⟩)
 refine hK.out _ _ ?_ ?_
 · (first | exact hH | exact ⟨⟨hH.1.1.call hb, hH.1.2.1.call hb, hH.1.2.2.1.call hb, hH.1.2.2.2.1.call hb, bwS hH.1.2.2.2.2 (Nat.le_refl _) hb⟩, hH.2.call hb⟩)
 (try clear hH); (try clear hb)
 intro hH
 clear hK K
 (try simp only [cq])
 refine tkY 12 (some 41) ?_ ?_ ?_
 rotate_left
 · intro w _; go_simp; (try with_reducible rfl)
 (try simp only [cq])
 refine tkY 13 (some 42) ?_ ?_ ?_
 rotate_left
 · intro w _; go_simp; (try with_reducible rfl)
 (try simp only [cq])
 refine wpAnyH_ready (rs := [14]) (by kernel_rfl) (by simp) ?_
 refine arc1 (some 43) fun K hK => ?_
 go_simp
 (refine (F1.out _).mono ?_; rintro e w' ⟨rfl, hb⟩)
 refine hK.out _ _ ?_ ?_
 · (first | exact hH | exact ⟨⟨hH.1.1.call hb, hH.1.2.1.call hb, hH.1.2.2.1.call hb, hH.1.2.2.2.1.call hb, bwS hH.1.2.2.2.2 (Nat.le_refl _) hb⟩, hH.2.call hb⟩)
 (try clear hH); (try clear hb)
 intro hH
 clear hK K
 (try simp only [cq])
 refine tkY 15 (some 44) ?_ ?_ ?_
 rotate_left
 · intro w _; go_simp; (try with_reducible rfl)
 (try simp only [cq])
 refine tkY 16 (some 45) ?_ ?_ ?_
 rotate_left
 · intro w _; go_simp; (try with_reducible rfl)
 (try simp only [cq])
 refine wpAnyH_ready (rs := [17]) (by kernel_rfl) (by simp) ?_
 refine arc1 none fun K hK => ?_
 obtain ⟨hH, kA⟩ := hH
 obtain ⟨kL, kX, kT, ⟨y0, y1, kR⟩, kB⟩ := hH
 obtain ⟨r0, r1⟩ := kR.c2
 have f0 := kR.free 0
 have f1 := kR.free 1
 have zR := kR.lt
 have KL := Lib.hid ((kL.other ⟨w.heap.size + 1 + 1 + 1, 0, none⟩ (.int .i64 sA) (by show _ ≠ w.heap.size + 1 + 1 + 1; omega)).other ⟨w.heap.size + 1 + 1 + 1, 1, none⟩ (.int .i64 sB) (by show _ ≠ w.heap.size + 1 + 1 + 1; omega))
 have KX := Lib.hid ((kX.other ⟨w.heap.size + 1 + 1 + 1, 0, none⟩ (.int .i64 sA) (by show _ ≠ w.heap.size + 1 + 1 + 1; omega)).other ⟨w.heap.size + 1 + 1 + 1, 1, none⟩ (.int .i64 sB) (by show _ ≠ w.heap.size + 1 + 1 + 1; omega))
 have KT := Lib.hid ((kT.other ⟨w.heap.size + 1 + 1 + 1, 0, none⟩ (.int .i64 sA) (by show _ ≠ w.heap.size + 1 + 1 + 1; omega)).other ⟨w.heap.size + 1 + 1 + 1, 1, none⟩ (.int .i64 sB) (by show _ ≠ w.heap.size + 1 + 1 + 1; omega))
 have KR := Lib.hid ((kR.set 0 (.int .i64 sA)).set 1 (.int .i64 sB))
 have KB := Lib.hid (below_set2 (c := w.heap.size + 1 + 1 + 1) (j := 0) (k := 1) kB (by omega) (.int .i64 sA) (.int .i64 sB))
 have KA := Lib.hid ((kA.other ⟨w.heap.size + 1 + 1 + 1, 0, none⟩ (.int .i64 sA) (by show _ ≠ w.heap.size + 1 + 1 + 1; omega)).other ⟨w.heap.size + 1 + 1 + 1, 1, none⟩ (.int .i64 sB) (by show _ ≠ w.heap.size + 1 + 1 + 1; omega))
 go_simp
 refine hK.out _ _ ?_ ?_
 · exact ⟨⟨KL.out, KX.out, KT.out, ⟨_, _, KR.out⟩, KB.out⟩, KA.out⟩
 (try clear hH); (try clear hb)
 intro hH
 clear hK K
 (try simp only [cq])
 refine wpAnyH_done (by kernel_rfl) ?_ _
 (try dsimp only [Act.put])
 (try simp only [cq])
 obtain ⟨z0, z1⟩ := KR.out.c2
 go_wp2
 exact bodyPost_ret (v := .agg #[.int .i64 sA, .int .i64 sB]) (by simp [results, Try.results80, go_sem, z0, z1]) rfl ⟨rfl, KB.out⟩ )
end Go.Proofs.Ytegdflikeoiaaaa

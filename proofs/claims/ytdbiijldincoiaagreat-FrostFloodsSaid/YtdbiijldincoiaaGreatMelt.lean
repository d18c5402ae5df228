/-
  What warmth makes of the layers, and what is known if it is one or the other: contracts of frost.melt, of its closures, and of frost.join.
-/
import Derived.Test.YtdbiijldincoiaaGreatStep
import Derived.Test.YtdbiijldincoiaaGreatTail
import Derived.IntWalk
set_option linter.unusedVariables false
set_option linter.unusedSimpArgs false
namespace Go.Proofs.YtdbiijldincoiaaGreat
open Go.RowKit

def mD (a c : Int) : Int := max 0 (a - c)
def meltI (x : Ic) (r0 r1 : Int) : Ic := ⟨mD x.b0 (mD (mD r1 x.s0) x.w0), mD x.b1 (mD (mD r0 x.s1) x.w1), mD x.w0 (mD r1 x.s0), mD x.w1 (mD r0 x.s1), x.q0, x.q1, mD x.s0 r1, mD x.s1 r0⟩
def joinI (x y : Ic) : Ic := ⟨min x.b0 y.b0, max x.b1 y.b1, min x.w0 y.w0, max x.w1 y.w1, min x.q0 y.q0, max x.q1 y.q1, min x.s0 y.s0, max x.s1 y.s1⟩
theorem Blk.oth2 {w : World} {b : Nat} {C : Array Value} {t : TypeId} (h : Blk w b C t) {c j k : Nat} (hp : b ≠ c) (y0 y1 : Value) :
    Blk ((w.setCell ⟨c, j, none⟩ y0).setCell ⟨c, k, none⟩ y1) b C t := (h.other _ _ hp).other _ _ hp
theorem Eight.oth2 {w : World} {b : Nat} {t : TypeId} (h : Eight w b t) {c j k : Nat} (hp : b ≠ c) (y0 y1 : Value) :
    Eight ((w.setCell ⟨c, j, none⟩ y0).setCell ⟨c, k, none⟩ y1) b t := (h.other _ _ hp).other _ _ hp
theorem below_set2 {B : Nat} {w v : World} (h : Below B w v) {c j k : Nat} (hp : B ≤ c) (y0 y1 : Value) : Below B w ((v.setCell ⟨c, j, none⟩ y0).setCell ⟨c, k, none⟩ y1) :=
  (h.setCell (p := ⟨c, j, none⟩) hp _).setCell (p := ⟨c, k, none⟩) hp _

theorem mlt1_lo (a0 a1 c0 c1 : Int) (bp bq : Nat) (w : World) (kp : Blk w bp #[.int .i64 a0, .int .i64 a1] 24) (kq : Blk w bq #[.int .i64 c0, .int .i64 c1] 24) (e : IntKind.i64.wrap (a0 - c1) = a0 - c1) :
    Calls Tryz.prog 97 #[.func (.func 110) #[] #[], .func (.func 111) #[] #[], .pointer (some ⟨bp, 0, none⟩), .pointer (some ⟨bq, 0, none⟩)] w fun e w' => e = .returned (.int .i64 (max 0 (a0 - c1))) ∧ Below w.heap.size w w' := by
  go_enter Tryz.func97, Tryz.ntmps97
  go_wp2_with fail
  refine wp_region_held_drew (S := (fun w' => Blk w' bp #[.int .i64 a0, .int .i64 a1] 24 ∧ Blk w' bq #[.int .i64 c0, .int .i64 c1] 24 ∧ Below w.heap.size w w')) (by kernel_rfl) ?_ (fun hH => ?_)
  · (try dsimp only); (exact ⟨kp.drew, kq.drew, (Below.refl _ _).drew⟩)
  refine tkY 0 (some 7) ?_ ?_ ?_
  rotate_left
  · intro w _; go_simp; (try with_reducible rfl)
  (try simp only [cq])
  refine tkY 1 (some 8) ?_ ?_ ?_
  rotate_left
  · intro w hS0; (try dsimp only at hS0); obtain ⟨k1, k2, _⟩ := hS0; obtain ⟨d0, d1⟩ := k1.c2; obtain ⟨d2, d3⟩ := k2.c2;go_simp; (try with_reducible rfl)
  (try simp only [cq])
  refine tkY 3 (some 10) ?_ ?_ ?_
  rotate_left
  · intro w _; go_simp; (try with_reducible rfl)
  (try simp only [cq])
  refine tkY 4 (some 11) ?_ ?_ ?_
  rotate_left
  · intro w hS0; (try dsimp only at hS0); obtain ⟨k1, k2, _⟩ := hS0; obtain ⟨d0, d1⟩ := k1.c2; obtain ⟨d2, d3⟩ := k2.c2;go_simp; (try with_reducible rfl)
  (try simp only [cq])
  refine wpAnyH_ready (rs := [2]) (by kernel_rfl) (by simp) ?_
  refine arc1 (some 9) fun K hK => ?_
  go_simp
  (refine (low_any _ _ _).mono ?_; rintro e w' ⟨rfl, hb⟩)
  refine hK.out _ _ ?_ ?_
  · (exact ⟨hH.1.call hb, hH.2.1.call hb, bwS hH.2.2 (Nat.le_refl _) hb⟩)
  (try clear hH); (try clear hb)
  intro hH
  clear hK K
  (try simp only [cq])
  refine wpAnyH_ready (rs := [5]) (by kernel_rfl) (by simp) ?_
  refine arc1 (some 12) fun K hK => ?_
  go_simp
  (refine (high_any _ _ _).mono ?_; rintro e w' ⟨rfl, hb⟩)
  refine hK.out _ _ ?_ ?_
  · (exact ⟨hH.1.call hb, hH.2.1.call hb, bwS hH.2.2 (Nat.le_refl _) hb⟩)
  (try clear hH); (try clear hb)
  intro hH
  clear hK K
  (try simp only [cq])
  refine tkY 6 (some 13) ?_ ?_ ?_
  rotate_left
  · intro w _; go_simp; (try with_reducible rfl)
  (try simp only [cq])
  refine tkY 7 (some 14) ?_ ?_ ?_
  rotate_left
  · intro w hS0; (try dsimp only at hS0); obtain ⟨k1, k2, _⟩ := hS0; obtain ⟨d0, d1⟩ := k1.c2; obtain ⟨d2, d3⟩ := k2.c2;go_simp; (try with_reducible rfl)
  (try simp only [cq])
  refine tkY 8 (some 6) ?_ ?_ ?_
  rotate_left
  · intro w _; go_simp; (try with_reducible rfl)
  (try simp only [cq])
  refine wpAnyH_done (by kernel_rfl) ?_ _
  (try dsimp only [Act.put])
  (try simp only [cq])
  have hBB := hH.2.2
  clear hH
  go_wp2
  go_ret
  exact ⟨rfl, hBB⟩

theorem mlt1_hi (a0 a1 c0 c1 : Int) (bp bq : Nat) (w : World) (kp : Blk w bp #[.int .i64 a0, .int .i64 a1] 24) (kq : Blk w bq #[.int .i64 c0, .int .i64 c1] 24) (e : IntKind.i64.wrap (a1 - c0) = a1 - c0) :
    Calls Tryz.prog 97 #[.func (.func 111) #[] #[], .func (.func 110) #[] #[], .pointer (some ⟨bp, 0, none⟩), .pointer (some ⟨bq, 0, none⟩)] w fun e w' => e = .returned (.int .i64 (max 0 (a1 - c0))) ∧ Below w.heap.size w w' := by
  go_enter Tryz.func97, Tryz.ntmps97
  go_wp2_with fail
  refine wp_region_held_drew (S := (fun w' => Blk w' bp #[.int .i64 a0, .int .i64 a1] 24 ∧ Blk w' bq #[.int .i64 c0, .int .i64 c1] 24 ∧ Below w.heap.size w w')) (by kernel_rfl) ?_ (fun hH => ?_)
  · (try dsimp only); (exact ⟨kp.drew, kq.drew, (Below.refl _ _).drew⟩)
  refine tkY 0 (some 7) ?_ ?_ ?_
  rotate_left
  · intro w _; go_simp; (try with_reducible rfl)
  (try simp only [cq])
  refine tkY 1 (some 8) ?_ ?_ ?_
  rotate_left
  · intro w hS0; (try dsimp only at hS0); obtain ⟨k1, k2, _⟩ := hS0; obtain ⟨d0, d1⟩ := k1.c2; obtain ⟨d2, d3⟩ := k2.c2;go_simp; (try with_reducible rfl)
  (try simp only [cq])
  refine tkY 3 (some 10) ?_ ?_ ?_
  rotate_left
  · intro w _; go_simp; (try with_reducible rfl)
  (try simp only [cq])
  refine tkY 4 (some 11) ?_ ?_ ?_
  rotate_left
  · intro w hS0; (try dsimp only at hS0); obtain ⟨k1, k2, _⟩ := hS0; obtain ⟨d0, d1⟩ := k1.c2; obtain ⟨d2, d3⟩ := k2.c2;go_simp; (try with_reducible rfl)
  (try simp only [cq])
  refine wpAnyH_ready (rs := [2]) (by kernel_rfl) (by simp) ?_
  refine arc1 (some 9) fun K hK => ?_
  go_simp
  (refine (high_any _ _ _).mono ?_; rintro e w' ⟨rfl, hb⟩)
  refine hK.out _ _ ?_ ?_
  · (exact ⟨hH.1.call hb, hH.2.1.call hb, bwS hH.2.2 (Nat.le_refl _) hb⟩)
  (try clear hH); (try clear hb)
  intro hH
  clear hK K
  (try simp only [cq])
  refine wpAnyH_ready (rs := [5]) (by kernel_rfl) (by simp) ?_
  refine arc1 (some 12) fun K hK => ?_
  go_simp
  (refine (low_any _ _ _).mono ?_; rintro e w' ⟨rfl, hb⟩)
  refine hK.out _ _ ?_ ?_
  · (exact ⟨hH.1.call hb, hH.2.1.call hb, bwS hH.2.2 (Nat.le_refl _) hb⟩)
  (try clear hH); (try clear hb)
  intro hH
  clear hK K
  (try simp only [cq])
  refine tkY 6 (some 13) ?_ ?_ ?_
  rotate_left
  · intro w _; go_simp; (try with_reducible rfl)
  (try simp only [cq])
  refine tkY 7 (some 14) ?_ ?_ ?_
  rotate_left
  · intro w hS0; (try dsimp only at hS0); obtain ⟨k1, k2, _⟩ := hS0; obtain ⟨d0, d1⟩ := k1.c2; obtain ⟨d2, d3⟩ := k2.c2;go_simp; (try with_reducible rfl)
  (try simp only [cq])
  refine tkY 8 (some 6) ?_ ?_ ?_
  rotate_left
  · intro w _; go_simp; (try with_reducible rfl)
  (try simp only [cq])
  refine wpAnyH_done (by kernel_rfl) ?_ _
  (try dsimp only [Act.put])
  (try simp only [cq])
  have hBB := hH.2.2
  clear hH
  go_wp2
  go_ret
  exact ⟨rfl, hBB⟩

theorem ends_mlt1 (bp bq : Nat) (x y : Int) (w : World) (hlo : ∀ W, Below w.heap.size w W → Calls Tryz.prog 97 #[.func (.func 110) #[] #[], .func (.func 111) #[] #[], .pointer (some ⟨bp, 0, none⟩), .pointer (some ⟨bq, 0, none⟩)] W fun e w' => e = .returned (.int .i64 x) ∧ Below W.heap.size W w')
    (hhi : ∀ W, Below w.heap.size w W → Calls Tryz.prog 97 #[.func (.func 111) #[] #[], .func (.func 110) #[] #[], .pointer (some ⟨bp, 0, none⟩), .pointer (some ⟨bq, 0, none⟩)] W fun e w' => e = .returned (.int .i64 y) ∧ Below W.heap.size W w') :
    Calls Tryz.prog 94 #[.func (.func 97) #[] #[.pointer (some ⟨bp, 0, none⟩), .pointer (some ⟨bq, 0, none⟩)]] w fun e w' => e = .returned (.agg #[.int .i64 x, .int .i64 y]) ∧ Below w.heap.size w w' := by
  have H1 := Lib.hid hlo
  have H2 := Lib.hid hhi
  clear hlo hhi
  go_enter Tryz.func94, Tryz.ntmps94
  go_wp2_with fail
  refine (H1.out _ ?_).mono ?_
  · (repeat (first | exact Below.refl _ _ | assumption | refine Below.drew ?_ | refine Below.drewN ?_ _ | refine blT ?_ | refine blU ?_))
  rintro e w1 ⟨rfl, hb1⟩
  have B1 : Below w.heap.size w w1 := bwS (by (repeat (first | exact Below.refl _ _ | assumption | refine Below.drew ?_ | refine Below.drewN ?_ _ | refine blT ?_ | refine blU ?_))) (Nat.le_refl _) hb1
  have K1 : Blk w1 w.heap.size #[.int .i64 0, .int .i64 0] 24 := (Blk.new w _ _).call hb1
  clear hb1
  go_wp2_with fail
  refine (H2.out _ ?_).mono ?_
  · exact B1
  rintro e w2 ⟨rfl, hb2⟩
  have B2 : Below w.heap.size w w2 := bwS B1 (Nat.le_refl _) hb2
  have K2 : Blk w2 w.heap.size #[.int .i64 0, .int .i64 0] 24 := K1.call hb2
  clear hb2 B1 K1 H1 H2
  have c0 : w2.cell? ⟨w.heap.size, 0, none⟩ = some (.int .i64 0) := K2.cell 0 rfl
  have c1 : w2.cell? ⟨w.heap.size, 1, none⟩ = some (.int .i64 0) := K2.cell 1 rfl
  have f0 := K2.free 0
  have f1 := K2.free 1
  have hf := (K2.set 0 (.int .i64 x)).set 1 (.int .i64 y)
  have Q0 := Lib.hid (show ((w2.setCell ⟨w.heap.size, 0, none⟩ (.int .i64 x)).setCell ⟨w.heap.size, 1, none⟩ (.int .i64 y)).cell? ⟨w.heap.size, 0, none⟩ = some (.int .i64 x) from hf.cell 0 rfl)
  have Q1 := Lib.hid (show ((w2.setCell ⟨w.heap.size, 0, none⟩ (.int .i64 x)).setCell ⟨w.heap.size, 1, none⟩ (.int .i64 y)).cell? ⟨w.heap.size, 1, none⟩ = some (.int .i64 y) from hf.cell 1 rfl)
  clear hf K2
  go_wp2
  refine bodyPost_ret (v := .agg #[.int .i64 x, .int .i64 y]) (by simp [results, Tryz.results94, go_sem, Q0.out, Q1.out]) rfl ⟨rfl, by (repeat (first | exact Below.refl _ _ | assumption | refine Below.drew ?_ | refine Below.drewN ?_ _ | refine blT ?_ | refine blU ?_))⟩


theorem mends1 (a0 a1 c0 c1 X Y : Int) (bp bq : Nat) (w : World) (kp : Blk w bp #[.int .i64 a0, .int .i64 a1] 24) (kq : Blk w bq #[.int .i64 c0, .int .i64 c1] 24) (e1 : IntKind.i64.wrap (a0 - c1) = a0 - c1) (e2 : IntKind.i64.wrap (a1 - c0) = a1 - c0) (hX : max 0 (a0 - c1) = X) (hY : max 0 (a1 - c0) = Y) :
    Calls Tryz.prog 94 #[.func (.func 97) #[] #[.pointer (some ⟨bp, 0, none⟩), .pointer (some ⟨bq, 0, none⟩)]] w fun e w' => e = .returned (.agg #[.int .i64 X, .int .i64 Y]) ∧ Below w.heap.size w w' := by
  rw [← hX, ← hY]
  exact ends_mlt1 bp bq _ _ w (fun W hW => mlt1_lo a0 a1 c0 c1 bp bq W (kp.call hW) (kq.call hW) e1) (fun W hW => mlt1_hi a0 a1 c0 c1 bp bq W (kp.call hW) (kq.call hW) e2)

theorem mlt2_lo (a0 a1 c0 c1 : Int) (bp bq : Nat) (w : World) (kp : Blk w bp #[.int .i64 a0, .int .i64 a1] 24) (kq : Blk w bq #[.int .i64 c0, .int .i64 c1] 24) (e : IntKind.i64.wrap (a0 - c1) = a0 - c1) :
    Calls Tryz.prog 98 #[.func (.func 110) #[] #[], .func (.func 111) #[] #[], .pointer (some ⟨bp, 0, none⟩), .pointer (some ⟨bq, 0, none⟩)] w fun e w' => e = .returned (.int .i64 (max 0 (a0 - c1))) ∧ Below w.heap.size w w' := by
  go_enter Tryz.func98, Tryz.ntmps98
  go_wp2_with fail
  refine wp_region_held_drew (S := (fun w' => Blk w' bp #[.int .i64 a0, .int .i64 a1] 24 ∧ Blk w' bq #[.int .i64 c0, .int .i64 c1] 24 ∧ Below w.heap.size w w')) (by kernel_rfl) ?_ (fun hH => ?_)
  · (try dsimp only); (exact ⟨kp.drew, kq.drew, (Below.refl _ _).drew⟩)
  refine tkY 0 (some 7) ?_ ?_ ?_
  rotate_left
  · intro w _; go_simp; (try with_reducible rfl)
  (try simp only [cq])
  refine tkY 1 (some 8) ?_ ?_ ?_
  rotate_left
  · intro w hS0; (try dsimp only at hS0); obtain ⟨k1, k2, _⟩ := hS0; obtain ⟨d0, d1⟩ := k1.c2; obtain ⟨d2, d3⟩ := k2.c2;go_simp; (try with_reducible rfl)
  (try simp only [cq])
  refine tkY 3 (some 10) ?_ ?_ ?_
  rotate_left
  · intro w _; go_simp; (try with_reducible rfl)
  (try simp only [cq])
  refine tkY 4 (some 11) ?_ ?_ ?_
  rotate_left
  · intro w hS0; (try dsimp only at hS0); obtain ⟨k1, k2, _⟩ := hS0; obtain ⟨d0, d1⟩ := k1.c2; obtain ⟨d2, d3⟩ := k2.c2;go_simp; (try with_reducible rfl)
  (try simp only [cq])
  refine wpAnyH_ready (rs := [2]) (by kernel_rfl) (by simp) ?_
  refine arc1 (some 9) fun K hK => ?_
  go_simp
  (refine (low_any _ _ _).mono ?_; rintro e w' ⟨rfl, hb⟩)
  refine hK.out _ _ ?_ ?_
  · (exact ⟨hH.1.call hb, hH.2.1.call hb, bwS hH.2.2 (Nat.le_refl _) hb⟩)
  (try clear hH); (try clear hb)
  intro hH
  clear hK K
  (try simp only [cq])
  refine wpAnyH_ready (rs := [5]) (by kernel_rfl) (by simp) ?_
  refine arc1 (some 12) fun K hK => ?_
  go_simp
  (refine (high_any _ _ _).mono ?_; rintro e w' ⟨rfl, hb⟩)
  refine hK.out _ _ ?_ ?_
  · (exact ⟨hH.1.call hb, hH.2.1.call hb, bwS hH.2.2 (Nat.le_refl _) hb⟩)
  (try clear hH); (try clear hb)
  intro hH
  clear hK K
  (try simp only [cq])
  refine tkY 6 (some 13) ?_ ?_ ?_
  rotate_left
  · intro w _; go_simp; (try with_reducible rfl)
  (try simp only [cq])
  refine tkY 7 (some 14) ?_ ?_ ?_
  rotate_left
  · intro w hS0; (try dsimp only at hS0); obtain ⟨k1, k2, _⟩ := hS0; obtain ⟨d0, d1⟩ := k1.c2; obtain ⟨d2, d3⟩ := k2.c2;go_simp; (try with_reducible rfl)
  (try simp only [cq])
  refine tkY 8 (some 6) ?_ ?_ ?_
  rotate_left
  · intro w _; go_simp; (try with_reducible rfl)
  (try simp only [cq])
  refine wpAnyH_done (by kernel_rfl) ?_ _
  (try dsimp only [Act.put])
  (try simp only [cq])
  have hBB := hH.2.2
  clear hH
  go_wp2
  go_ret
  exact ⟨rfl, hBB⟩

theorem mlt2_hi (a0 a1 c0 c1 : Int) (bp bq : Nat) (w : World) (kp : Blk w bp #[.int .i64 a0, .int .i64 a1] 24) (kq : Blk w bq #[.int .i64 c0, .int .i64 c1] 24) (e : IntKind.i64.wrap (a1 - c0) = a1 - c0) :
    Calls Tryz.prog 98 #[.func (.func 111) #[] #[], .func (.func 110) #[] #[], .pointer (some ⟨bp, 0, none⟩), .pointer (some ⟨bq, 0, none⟩)] w fun e w' => e = .returned (.int .i64 (max 0 (a1 - c0))) ∧ Below w.heap.size w w' := by
  go_enter Tryz.func98, Tryz.ntmps98
  go_wp2_with fail
  refine wp_region_held_drew (S := (fun w' => Blk w' bp #[.int .i64 a0, .int .i64 a1] 24 ∧ Blk w' bq #[.int .i64 c0, .int .i64 c1] 24 ∧ Below w.heap.size w w')) (by kernel_rfl) ?_ (fun hH => ?_)
  · (try dsimp only); (exact ⟨kp.drew, kq.drew, (Below.refl _ _).drew⟩)
  refine tkY 0 (some 7) ?_ ?_ ?_
  rotate_left
  · intro w _; go_simp; (try with_reducible rfl)
  (try simp only [cq])
  refine tkY 1 (some 8) ?_ ?_ ?_
  rotate_left
  · intro w hS0; (try dsimp only at hS0); obtain ⟨k1, k2, _⟩ := hS0; obtain ⟨d0, d1⟩ := k1.c2; obtain ⟨d2, d3⟩ := k2.c2;go_simp; (try with_reducible rfl)
  (try simp only [cq])
  refine tkY 3 (some 10) ?_ ?_ ?_
  rotate_left
  · intro w _; go_simp; (try with_reducible rfl)
  (try simp only [cq])
  refine tkY 4 (some 11) ?_ ?_ ?_
  rotate_left
  · intro w hS0; (try dsimp only at hS0); obtain ⟨k1, k2, _⟩ := hS0; obtain ⟨d0, d1⟩ := k1.c2; obtain ⟨d2, d3⟩ := k2.c2;go_simp; (try with_reducible rfl)
  (try simp only [cq])
  refine wpAnyH_ready (rs := [2]) (by kernel_rfl) (by simp) ?_
  refine arc1 (some 9) fun K hK => ?_
  go_simp
  (refine (high_any _ _ _).mono ?_; rintro e w' ⟨rfl, hb⟩)
  refine hK.out _ _ ?_ ?_
  · (exact ⟨hH.1.call hb, hH.2.1.call hb, bwS hH.2.2 (Nat.le_refl _) hb⟩)
  (try clear hH); (try clear hb)
  intro hH
  clear hK K
  (try simp only [cq])
  refine wpAnyH_ready (rs := [5]) (by kernel_rfl) (by simp) ?_
  refine arc1 (some 12) fun K hK => ?_
  go_simp
  (refine (low_any _ _ _).mono ?_; rintro e w' ⟨rfl, hb⟩)
  refine hK.out _ _ ?_ ?_
  · (exact ⟨hH.1.call hb, hH.2.1.call hb, bwS hH.2.2 (Nat.le_refl _) hb⟩)
  (try clear hH); (try clear hb)
  intro hH
  clear hK K
  (try simp only [cq])
  refine tkY 6 (some 13) ?_ ?_ ?_
  rotate_left
  · intro w _; go_simp; (try with_reducible rfl)
  (try simp only [cq])
  refine tkY 7 (some 14) ?_ ?_ ?_
  rotate_left
  · intro w hS0; (try dsimp only at hS0); obtain ⟨k1, k2, _⟩ := hS0; obtain ⟨d0, d1⟩ := k1.c2; obtain ⟨d2, d3⟩ := k2.c2;go_simp; (try with_reducible rfl)
  (try simp only [cq])
  refine tkY 8 (some 6) ?_ ?_ ?_
  rotate_left
  · intro w _; go_simp; (try with_reducible rfl)
  (try simp only [cq])
  refine wpAnyH_done (by kernel_rfl) ?_ _
  (try dsimp only [Act.put])
  (try simp only [cq])
  have hBB := hH.2.2
  clear hH
  go_wp2
  go_ret
  exact ⟨rfl, hBB⟩

theorem ends_mlt2 (bp bq : Nat) (x y : Int) (w : World) (hlo : ∀ W, Below w.heap.size w W → Calls Tryz.prog 98 #[.func (.func 110) #[] #[], .func (.func 111) #[] #[], .pointer (some ⟨bp, 0, none⟩), .pointer (some ⟨bq, 0, none⟩)] W fun e w' => e = .returned (.int .i64 x) ∧ Below W.heap.size W w')
    (hhi : ∀ W, Below w.heap.size w W → Calls Tryz.prog 98 #[.func (.func 111) #[] #[], .func (.func 110) #[] #[], .pointer (some ⟨bp, 0, none⟩), .pointer (some ⟨bq, 0, none⟩)] W fun e w' => e = .returned (.int .i64 y) ∧ Below W.heap.size W w') :
    Calls Tryz.prog 94 #[.func (.func 98) #[] #[.pointer (some ⟨bp, 0, none⟩), .pointer (some ⟨bq, 0, none⟩)]] w fun e w' => e = .returned (.agg #[.int .i64 x, .int .i64 y]) ∧ Below w.heap.size w w' := by
  have H1 := Lib.hid hlo
  have H2 := Lib.hid hhi
  clear hlo hhi
  go_enter Tryz.func94, Tryz.ntmps94
  go_wp2_with fail
  refine (H1.out _ ?_).mono ?_
  · (repeat (first | exact Below.refl _ _ | assumption | refine Below.drew ?_ | refine Below.drewN ?_ _ | refine blT ?_ | refine blU ?_))
  rintro e w1 ⟨rfl, hb1⟩
  have B1 : Below w.heap.size w w1 := bwS (by (repeat (first | exact Below.refl _ _ | assumption | refine Below.drew ?_ | refine Below.drewN ?_ _ | refine blT ?_ | refine blU ?_))) (Nat.le_refl _) hb1
  have K1 : Blk w1 w.heap.size #[.int .i64 0, .int .i64 0] 24 := (Blk.new w _ _).call hb1
  clear hb1
  go_wp2_with fail
  refine (H2.out _ ?_).mono ?_
  · exact B1
  rintro e w2 ⟨rfl, hb2⟩
  have B2 : Below w.heap.size w w2 := bwS B1 (Nat.le_refl _) hb2
  have K2 : Blk w2 w.heap.size #[.int .i64 0, .int .i64 0] 24 := K1.call hb2
  clear hb2 B1 K1 H1 H2
  have c0 : w2.cell? ⟨w.heap.size, 0, none⟩ = some (.int .i64 0) := K2.cell 0 rfl
  have c1 : w2.cell? ⟨w.heap.size, 1, none⟩ = some (.int .i64 0) := K2.cell 1 rfl
  have f0 := K2.free 0
  have f1 := K2.free 1
  have hf := (K2.set 0 (.int .i64 x)).set 1 (.int .i64 y)
  have Q0 := Lib.hid (show ((w2.setCell ⟨w.heap.size, 0, none⟩ (.int .i64 x)).setCell ⟨w.heap.size, 1, none⟩ (.int .i64 y)).cell? ⟨w.heap.size, 0, none⟩ = some (.int .i64 x) from hf.cell 0 rfl)
  have Q1 := Lib.hid (show ((w2.setCell ⟨w.heap.size, 0, none⟩ (.int .i64 x)).setCell ⟨w.heap.size, 1, none⟩ (.int .i64 y)).cell? ⟨w.heap.size, 1, none⟩ = some (.int .i64 y) from hf.cell 1 rfl)
  clear hf K2
  go_wp2
  refine bodyPost_ret (v := .agg #[.int .i64 x, .int .i64 y]) (by simp [results, Tryz.results94, go_sem, Q0.out, Q1.out]) rfl ⟨rfl, by (repeat (first | exact Below.refl _ _ | assumption | refine Below.drew ?_ | refine Below.drewN ?_ _ | refine blT ?_ | refine blU ?_))⟩


theorem mends2 (a0 a1 c0 c1 X Y : Int) (bp bq : Nat) (w : World) (kp : Blk w bp #[.int .i64 a0, .int .i64 a1] 24) (kq : Blk w bq #[.int .i64 c0, .int .i64 c1] 24) (e1 : IntKind.i64.wrap (a0 - c1) = a0 - c1) (e2 : IntKind.i64.wrap (a1 - c0) = a1 - c0) (hX : max 0 (a0 - c1) = X) (hY : max 0 (a1 - c0) = Y) :
    Calls Tryz.prog 94 #[.func (.func 98) #[] #[.pointer (some ⟨bp, 0, none⟩), .pointer (some ⟨bq, 0, none⟩)]] w fun e w' => e = .returned (.agg #[.int .i64 X, .int .i64 Y]) ∧ Below w.heap.size w w' := by
  rw [← hX, ← hY]
  exact ends_mlt2 bp bq _ _ w (fun W hW => mlt2_lo a0 a1 c0 c1 bp bq W (kp.call hW) (kq.call hW) e1) (fun W hW => mlt2_hi a0 a1 c0 c1 bp bq W (kp.call hW) (kq.call hW) e2)

set_option maxRecDepth 100000 in
set_option maxHeartbeats 8000000 in
theorem melt_any (gr la : Int) (v : Value) (m0 m1 so h0 h1 : Int) (x : Ic) (c0 c1 : Int) (w : World) (hv : ∃ a n cap, v = .slice a n cap) (hx : x.In 1000000000) (g0 : 0 ≤ m0) (g1 : m0 ≤ 10000000) (g2 : 0 ≤ m1) (g3 : m1 ≤ 10000000)
    (k0 : 0 ≤ c0) (k1 : c0 ≤ 1000) (k2 : 0 ≤ c1) (k3 : c1 ≤ 1000) (y : Ic) (hy : y = meltI x (gotL c0 m0) (gotH c1 m1)) :
    Calls Tryz.prog 76 #[.agg #[.int .i64 gr, .int .i64 la, v, .int .i64 m0, .int .i64 m1, .int .i64 so, .int .i64 h0, .int .i64 h1], .agg #[.int .i64 x.b0, .int .i64 x.b1, .int .i64 x.w0, .int .i64 x.w1, .int .i64 x.q0, .int .i64 x.q1, .int .i64 x.s0, .int .i64 x.s1], .agg #[.int .i64 c0, .int .i64 c1]] w fun e w' => e = .returned (.agg #[.int .i64 y.b0, .int .i64 y.b1, .int .i64 y.w0, .int .i64 y.w1, .int .i64 y.q0, .int .i64 y.q1, .int .i64 y.s0, .int .i64 y.s1]) ∧ Below w.heap.size w w' := by
  obtain ⟨va, n, cap, rfl⟩ := hv
  have t1 : 0 ≤ c0 * m0 := Int.mul_nonneg k0 g0
  have t2 : c0 * m0 ≤ 1000 * 10000000 := Int.mul_le_mul k1 g1 g0 (by omega)
  have t3 : 0 ≤ c1 * m1 := Int.mul_nonneg k2 g2
  have t4 : c1 * m1 ≤ 1000 * 10000000 := Int.mul_le_mul k3 g3 g2 (by omega)
  have hS : ∀ W, Calls Tryz.prog 71 #[.agg #[.int .i64 c0, .int .i64 c1], .agg #[.int .i64 m0, .int .i64 m1]] W fun e w' => e = .returned (.agg #[.int .i64 (c0*m0/1000000), .int .i64 ((c1*m1+999999)/1000000)]) ∧ Below W.heap.size W w' := fun W => shares_any _ _ _ _ W t1 (by omega) t3 (by omega)
  obtain ⟨r0, hr0⟩ : ∃ r, c0 * m0 / 1000000 = r := ⟨_, rfl⟩
  obtain ⟨r1, hr1⟩ : ∃ r, (c1 * m1 + 999999) / 1000000 = r := ⟨_, rfl⟩
  rw [hr0, hr1] at hS
  have R0 : 0 ≤ r0 ∧ r0 ≤ 10001 := by omega
  have R1 : 0 ≤ r1 ∧ r1 ≤ 10001 := by omega
  clear t1 t2 t3 t4 k0 k1 k2 k3 g0 g1 g2 g3
  obtain ⟨i1, i2, i3, i4, i5, i6, i7, i8, i9, i10, i11, i12, i13, i14, i15, i16⟩ := hx
  obtain ⟨S0, hS0⟩ : ∃ t, max 0 (x.s0 - r1) = t := ⟨_, rfl⟩
  have zS0 : 0 ≤ S0 ∧ S0 ≤ 1000000000 := by omega
  have eS0 : IntKind.i64.wrap (x.s0 - r1) = x.s0 - r1 := IntWalk.i64_in _ (by omega)
  obtain ⟨S1, hS1⟩ : ∃ t, max 0 (x.s1 - r0) = t := ⟨_, rfl⟩
  have zS1 : 0 ≤ S1 ∧ S1 ≤ 1000000000 := by omega
  have eS1 : IntKind.i64.wrap (x.s1 - r0) = x.s1 - r0 := IntWalk.i64_in _ (by omega)
  obtain ⟨U0, hU0⟩ : ∃ t, max 0 (r0 - x.s1) = t := ⟨_, rfl⟩
  have zU0 : 0 ≤ U0 ∧ U0 ≤ 1000000000 := by omega
  have eU0 : IntKind.i64.wrap (r0 - x.s1) = r0 - x.s1 := IntWalk.i64_in _ (by omega)
  obtain ⟨U1, hU1⟩ : ∃ t, max 0 (r1 - x.s0) = t := ⟨_, rfl⟩
  have zU1 : 0 ≤ U1 ∧ U1 ≤ 1000000000 := by omega
  have eU1 : IntKind.i64.wrap (r1 - x.s0) = r1 - x.s0 := IntWalk.i64_in _ (by omega)
  obtain ⟨W0, hW0⟩ : ∃ t, max 0 (x.w0 - U1) = t := ⟨_, rfl⟩
  have zW0 : 0 ≤ W0 ∧ W0 ≤ 1000000000 := by omega
  have eW0 : IntKind.i64.wrap (x.w0 - U1) = x.w0 - U1 := IntWalk.i64_in _ (by omega)
  obtain ⟨W1, hW1⟩ : ∃ t, max 0 (x.w1 - U0) = t := ⟨_, rfl⟩
  have zW1 : 0 ≤ W1 ∧ W1 ≤ 1000000000 := by omega
  have eW1 : IntKind.i64.wrap (x.w1 - U0) = x.w1 - U0 := IntWalk.i64_in _ (by omega)
  obtain ⟨V0, hV0⟩ : ∃ t, max 0 (U0 - x.w1) = t := ⟨_, rfl⟩
  have zV0 : 0 ≤ V0 ∧ V0 ≤ 1000000000 := by omega
  have eV0 : IntKind.i64.wrap (U0 - x.w1) = U0 - x.w1 := IntWalk.i64_in _ (by omega)
  obtain ⟨V1, hV1⟩ : ∃ t, max 0 (U1 - x.w0) = t := ⟨_, rfl⟩
  have zV1 : 0 ≤ V1 ∧ V1 ≤ 1000000000 := by omega
  have eV1 : IntKind.i64.wrap (U1 - x.w0) = U1 - x.w0 := IntWalk.i64_in _ (by omega)
  obtain ⟨B0, hB0⟩ : ∃ t, max 0 (x.b0 - V1) = t := ⟨_, rfl⟩
  have zB0 : 0 ≤ B0 ∧ B0 ≤ 1000000000 := by omega
  have eB0 : IntKind.i64.wrap (x.b0 - V1) = x.b0 - V1 := IntWalk.i64_in _ (by omega)
  obtain ⟨B1, hB1⟩ : ∃ t, max 0 (x.b1 - V0) = t := ⟨_, rfl⟩
  have zB1 : 0 ≤ B1 ∧ B1 ≤ 1000000000 := by omega
  have eB1 : IntKind.i64.wrap (x.b1 - V0) = x.b1 - V0 := IntWalk.i64_in _ (by omega)
  obtain ⟨T0, hT0⟩ : ∃ t, max 0 (V0 - x.b1) = t := ⟨_, rfl⟩
  have zT0 : 0 ≤ T0 ∧ T0 ≤ 1000000000 := by omega
  have eT0 : IntKind.i64.wrap (V0 - x.b1) = V0 - x.b1 := IntWalk.i64_in _ (by omega)
  obtain ⟨T1, hT1⟩ : ∃ t, max 0 (V1 - x.b0) = t := ⟨_, rfl⟩
  have zT1 : 0 ≤ T1 ∧ T1 ≤ 1000000000 := by omega
  have eT1 : IntKind.i64.wrap (V1 - x.b0) = V1 - x.b0 := IntWalk.i64_in _ (by omega)
  have HY : Hid (y.b0 = B0 ∧ y.b1 = B1 ∧ y.w0 = W0 ∧ y.w1 = W1 ∧ y.q0 = x.q0 ∧ y.q1 = x.q1 ∧ y.s0 = S0 ∧ y.s1 = S1) := by
    rw [hy]
    refine ⟨?_, ?_, ?_, ?_, ?_, ?_, ?_, ?_⟩ <;> simp only [meltI, mD, gotL, gotH, hr0, hr1, hS0, hS1, hU0, hU1, hW0, hW1, hV0, hV1, hB0, hB1]
  have M0 : Hid (∀ W bp bq, Blk W bp #[.int .i64 x.s0, .int .i64 x.s1] 24 → Blk W bq #[.int .i64 r0, .int .i64 r1] 24 → Calls Tryz.prog 94 #[.func (.func 97) #[] #[.pointer (some ⟨bp, 0, none⟩), .pointer (some ⟨bq, 0, none⟩)]] W fun e w' => e = .returned (.agg #[.int .i64 S0, .int .i64 S1]) ∧ Below W.heap.size W w') := fun W bp bq hp hq => mends1 _ _ _ _ _ _ bp bq W hp hq eS0 eS1 hS0 hS1
  have N0 : Hid (∀ W bp bq, Blk W bp #[.int .i64 r0, .int .i64 r1] 24 → Blk W bq #[.int .i64 x.s0, .int .i64 x.s1] 24 → Calls Tryz.prog 94 #[.func (.func 98) #[] #[.pointer (some ⟨bp, 0, none⟩), .pointer (some ⟨bq, 0, none⟩)]] W fun e w' => e = .returned (.agg #[.int .i64 U0, .int .i64 U1]) ∧ Below W.heap.size W w') := fun W bp bq hp hq => mends2 _ _ _ _ _ _ bp bq W hp hq eU0 eU1 hU0 hU1
  have M1 : Hid (∀ W bp bq, Blk W bp #[.int .i64 x.w0, .int .i64 x.w1] 24 → Blk W bq #[.int .i64 U0, .int .i64 U1] 24 → Calls Tryz.prog 94 #[.func (.func 97) #[] #[.pointer (some ⟨bp, 0, none⟩), .pointer (some ⟨bq, 0, none⟩)]] W fun e w' => e = .returned (.agg #[.int .i64 W0, .int .i64 W1]) ∧ Below W.heap.size W w') := fun W bp bq hp hq => mends1 _ _ _ _ _ _ bp bq W hp hq eW0 eW1 hW0 hW1
  have N1 : Hid (∀ W bp bq, Blk W bp #[.int .i64 U0, .int .i64 U1] 24 → Blk W bq #[.int .i64 x.w0, .int .i64 x.w1] 24 → Calls Tryz.prog 94 #[.func (.func 98) #[] #[.pointer (some ⟨bp, 0, none⟩), .pointer (some ⟨bq, 0, none⟩)]] W fun e w' => e = .returned (.agg #[.int .i64 V0, .int .i64 V1]) ∧ Below W.heap.size W w') := fun W bp bq hp hq => mends2 _ _ _ _ _ _ bp bq W hp hq eV0 eV1 hV0 hV1
  have M2 : Hid (∀ W bp bq, Blk W bp #[.int .i64 x.b0, .int .i64 x.b1] 24 → Blk W bq #[.int .i64 V0, .int .i64 V1] 24 → Calls Tryz.prog 94 #[.func (.func 97) #[] #[.pointer (some ⟨bp, 0, none⟩), .pointer (some ⟨bq, 0, none⟩)]] W fun e w' => e = .returned (.agg #[.int .i64 B0, .int .i64 B1]) ∧ Below W.heap.size W w') := fun W bp bq hp hq => mends1 _ _ _ _ _ _ bp bq W hp hq eB0 eB1 hB0 hB1
  have N2 : Hid (∀ W bp bq, Blk W bp #[.int .i64 V0, .int .i64 V1] 24 → Blk W bq #[.int .i64 x.b0, .int .i64 x.b1] 24 → Calls Tryz.prog 94 #[.func (.func 98) #[] #[.pointer (some ⟨bp, 0, none⟩), .pointer (some ⟨bq, 0, none⟩)]] W fun e w' => e = .returned (.agg #[.int .i64 T0, .int .i64 T1]) ∧ Below W.heap.size W w') := fun W bp bq hp hq => mends2 _ _ _ _ _ _ bp bq W hp hq eT0 eT1 hT0 hT1
  clear hy hr0 hr1 R0 R1 i1 i2 i3 i4 i5 i6 i7 i8 i9 i10 i11 i12 i13 i14 i15 i16 hS0 zS0 eS0 hS1 zS1 eS1 hU0 zU0 eU0 hU1 zU1 eU1 hW0 zW0 eW0 hW1 zW1 eW1 hV0 zV0 eV0 hV1 zV1 eV1 hB0 zB0 eB0 hB1 zB1 eB1 hT0 zT0 eT0 hT1 zT1 eT1
  have HS := Lib.hid hS
  clear hS
  have jB := ((Blk.new1 w (.cells #[.int .i64 gr, .int .i64 la, .slice va n cap, .int .i64 m0, .int .i64 m1, .int .i64 so, .int .i64 h0, .int .i64 h1] 26) #[.int .i64 x.b0, .int .i64 x.b1, .int .i64 x.w0, .int .i64 x.w1, .int .i64 x.q0, .int .i64 x.q1, .int .i64 x.s0, .int .i64 x.s1] 105).alloc (.cells #[.int .i64 c0, .int .i64 c1] 24)).alloc (.cells #[.int .i64 0, .int .i64 0, .int .i64 0, .int .i64 0, .int .i64 0, .int .i64 0, .int .i64 0, .int .i64 0] 105)
  have jO : Eight _ _ _ := ⟨_, _, _, _, _, _, _, _, Blk.new3 w (.cells #[.int .i64 gr, .int .i64 la, .slice va n cap, .int .i64 m0, .int .i64 m1, .int .i64 so, .int .i64 h0, .int .i64 h1] 26) (.cells #[.int .i64 x.b0, .int .i64 x.b1, .int .i64 x.w0, .int .i64 x.w1, .int .i64 x.q0, .int .i64 x.q1, .int .i64 x.s0, .int .i64 x.s1] 105) (.cells #[.int .i64 c0, .int .i64 c1] 24) #[.int .i64 0, .int .i64 0, .int .i64 0, .int .i64 0, .int .i64 0, .int .i64 0, .int .i64 0, .int .i64 0] 105⟩
  have jW : Below w.heap.size w ((((w.alloc (.cells #[.int .i64 gr, .int .i64 la, .slice va n cap, .int .i64 m0, .int .i64 m1, .int .i64 so, .int .i64 h0, .int .i64 h1] 26)).alloc (.cells #[.int .i64 x.b0, .int .i64 x.b1, .int .i64 x.w0, .int .i64 x.w1, .int .i64 x.q0, .int .i64 x.q1, .int .i64 x.s0, .int .i64 x.s1] 105)).alloc (.cells #[.int .i64 c0, .int .i64 c1] 24)).alloc (.cells #[.int .i64 0, .int .i64 0, .int .i64 0, .int .i64 0, .int .i64 0, .int .i64 0, .int .i64 0, .int .i64 0] 105)) := by (repeat (first | exact Below.refl _ _ | assumption | refine Below.drew ?_ | refine Below.drewN ?_ _ | refine blT ?_ | refine blU ?_))
  go_enter Tryz.func76, Tryz.ntmps76
  go_wp2_with fail
  refine (HS.out _).mono ?_
  rintro e w1 ⟨rfl, hb⟩
  clear HS
  replace jB := jB.call hb
  replace jO := jO.call hb
  replace jW := bwS jW (Nat.le_refl _) hb
  clear hb
  have zO : w.heap.size + 1 + 1 + 1 < w1.heap.size := jO.lt
  have jR := Blk.new w1 #[.int .i64 r0, .int .i64 r1] 24
  replace jB := jB.alloc (.cells #[.int .i64 r0, .int .i64 r1] 24)
  replace jO := jO.alloc (.cells #[.int .i64 r0, .int .i64 r1] 24)
  replace jW := bwA jW (Nat.le_refl _) (.cells #[.int .i64 r0, .int .i64 r1] 24)
  have i0 : ∀ w, (Instr.index 129 (.agg #[.int .i64 3, .int .i64 1, .int .i64 0]) (.int .i64 0)).run Tryz.prog w = .ok (.int .i64 3) w := fun _ => by kernel_rfl
  have i1 : ∀ w, (Instr.index 129 (.agg #[.int .i64 3, .int .i64 1, .int .i64 0]) (.int .i64 1)).run Tryz.prog w = .ok (.int .i64 1) w := fun _ => by kernel_rfl
  have i2 : ∀ w, (Instr.index 129 (.agg #[.int .i64 3, .int .i64 1, .int .i64 0]) (.int .i64 2)).run Tryz.prog w = .ok (.int .i64 0) w := fun _ => by kernel_rfl
  go_wp2_with fail
  go_loopw [16] (fun i wr => ∃ k : Nat, k ≤ 3 ∧ i = .int .i64 k ∧ (k = 0 → Blk wr (w.heap.size + 1) #[.int .i64 x.b0, .int .i64 x.b1, .int .i64 x.w0, .int .i64 x.w1, .int .i64 x.q0, .int .i64 x.q1, .int .i64 x.s0, .int .i64 x.s1] 105 ∧ Blk wr w1.heap.size #[.int .i64 r0, .int .i64 r1] 24) ∧ (k = 1 → Blk wr (w.heap.size + 1) #[.int .i64 x.b0, .int .i64 x.b1, .int .i64 x.w0, .int .i64 x.w1, .int .i64 x.q0, .int .i64 x.q1, .int .i64 S0, .int .i64 S1] 105 ∧ Blk wr w1.heap.size #[.int .i64 U0, .int .i64 U1] 24) ∧ (k = 2 → Blk wr (w.heap.size + 1) #[.int .i64 x.b0, .int .i64 x.b1, .int .i64 W0, .int .i64 W1, .int .i64 x.q0, .int .i64 x.q1, .int .i64 S0, .int .i64 S1] 105 ∧ Blk wr w1.heap.size #[.int .i64 V0, .int .i64 V1] 24) ∧ (k = 3 → Blk wr (w.heap.size + 1) #[.int .i64 B0, .int .i64 B1, .int .i64 W0, .int .i64 W1, .int .i64 x.q0, .int .i64 x.q1, .int .i64 S0, .int .i64 S1] 105 ∧ Blk wr w1.heap.size #[.int .i64 T0, .int .i64 T1] 24) ∧ Eight wr (w.heap.size + 1 + 1 + 1) 105 ∧ Below w.heap.size w wr) (fun i _ => 3 - (intOf i).toNat)
  case atStart => exact ⟨0, by omega, rfl, fun _ => ⟨jB, jR⟩, fun h => (by omega), fun h => (by omega), fun h => (by omega), jO, jW⟩
  case round =>
    obtain ⟨k, hk, rfl, f0, f1, f2, f3, hO, hW⟩ := hrel
    clear jB jR jO jW
    obtain rfl | rfl | rfl | rfl : k = 0 ∨ k = 1 ∨ k = 2 ∨ k = 3 := by omega
    · -- round 0
      obtain ⟨qB, qR⟩ := f0 rfl
      clear f0 f1 f2 f3 i1 i2 M1 N1 M2 N2
      obtain ⟨a0, a1, a2, a3, a4, a5, a6, a7⟩ := qB.c8
      have zB := qB.lt
      have zR := qR.lt
      have qS := Blk.new wr #[.int .i64 x.s0, .int .i64 x.s1] 24
      go_wp2_with fail
      clear a0 a1 a2 a3 a4 a5 a6 a7 zB
      replace qB := qB.alloc (.cells #[.int .i64 x.s0, .int .i64 x.s1] 24)
      replace qR := qR.alloc (.cells #[.int .i64 x.s0, .int .i64 x.s1] 24)
      replace hO := hO.alloc (.cells #[.int .i64 x.s0, .int .i64 x.s1] 24)
      replace hW := bwA hW (Nat.le_refl _) (.cells #[.int .i64 x.s0, .int .i64 x.s1] 24)
      generalize wr.alloc (.cells #[.int .i64 x.s0, .int .i64 x.s1] 24) = V at qB qR qS hO hW ⊢
      obtain ⟨bS, hbS⟩ : ∃ b, wr.heap.size = b := ⟨_, rfl⟩
      rw [hbS] at qS zR ⊢
      clear hbS
      refine (M0.out _ _ _ qS qR).mono ?_
      rintro e v1 ⟨rfl, hb⟩
      replace qB := qB.call hb
      replace qR := qR.call hb
      replace qS := qS.call hb
      replace hO := hO.call hb
      replace hW := bwS hW (Nat.le_refl _) hb
      clear hb M0
      obtain ⟨a0, a1, a2, a3, a4, a5, a6, a7⟩ := qB.c8
      have fb0 := qB.free 6
      have fb1 := qB.free 7
      have zB := qB.lt
      go_wp2_with fail
      clear a0 a1 a2 a3 a4 a5 a6 a7 fb0 fb1 zB
      replace qB : Blk _ _ #[.int .i64 x.b0, .int .i64 x.b1, .int .i64 x.w0, .int .i64 x.w1, .int .i64 x.q0, .int .i64 x.q1, .int .i64 S0, .int .i64 S1] _ := (qB.set 6 (.int .i64 S0)).set 7 (.int .i64 S1)
      replace qR := qR.oth2 (c := w.heap.size + 1) (j := 6) (k := 7) (by omega) (.int .i64 S0) (.int .i64 S1)
      replace qS := qS.oth2 (c := w.heap.size + 1) (j := 6) (k := 7) (by omega) (.int .i64 S0) (.int .i64 S1)
      replace hO := hO.oth2 (c := w.heap.size + 1) (j := 6) (k := 7) (by omega) (.int .i64 S0) (.int .i64 S1)
      replace hW := below_set2 hW (c := w.heap.size + 1) (j := 6) (k := 7) (by omega) (.int .i64 S0) (.int .i64 S1)
      generalize (v1.setCell ⟨w.heap.size + 1, 6, none⟩ (.int .i64 S0)).setCell ⟨w.heap.size + 1, 7, none⟩ (.int .i64 S1) = V2 at qB qR qS hO hW ⊢
      refine (N0.out _ _ _ qR qS).mono ?_
      rintro e v2 ⟨rfl, hb⟩
      replace qB := qB.call hb
      replace qR := qR.call hb
      replace hO := hO.call hb
      replace hW := bwS hW (Nat.le_refl _) hb
      clear hb N0 qS
      obtain ⟨a0, a1⟩ := qR.c2
      have fb0 := qR.free 0
      have fb1 := qR.free 1
      have zR2 := qR.lt
      have qR2 : Blk _ _ #[.int .i64 U0, .int .i64 U1] _ := (qR.set 0 (.int .i64 U0)).set 1 (.int .i64 U1)
      replace qB := qB.oth2 (c := w1.heap.size) (j := 0) (k := 1) (by omega) (.int .i64 U0) (.int .i64 U1)
      replace hO := hO.oth2 (c := w1.heap.size) (j := 0) (k := 1) (by omega) (.int .i64 U0) (.int .i64 U1)
      replace hW := below_set2 hW (c := w1.heap.size) (j := 0) (k := 1) (by omega) (.int .i64 U0) (.int .i64 U1)
      go_wp2
      go_roundw
      case rel => exact ⟨1, by omega, by go_num, fun h => (by omega), fun _ => ⟨qB, qR2⟩, fun h => (by omega), fun h => (by omega), hO, hW⟩
      case measure => simp [intOf]
    · -- round 1
      obtain ⟨qB, qR⟩ := f1 rfl
      clear f0 f1 f2 f3 i0 i2 M0 N0 M2 N2
      obtain ⟨a0, a1, a2, a3, a4, a5, a6, a7⟩ := qB.c8
      have zB := qB.lt
      have zR := qR.lt
      have qS := Blk.new wr #[.int .i64 x.w0, .int .i64 x.w1] 24
      go_wp2_with fail
      clear a0 a1 a2 a3 a4 a5 a6 a7 zB
      replace qB := qB.alloc (.cells #[.int .i64 x.w0, .int .i64 x.w1] 24)
      replace qR := qR.alloc (.cells #[.int .i64 x.w0, .int .i64 x.w1] 24)
      replace hO := hO.alloc (.cells #[.int .i64 x.w0, .int .i64 x.w1] 24)
      replace hW := bwA hW (Nat.le_refl _) (.cells #[.int .i64 x.w0, .int .i64 x.w1] 24)
      generalize wr.alloc (.cells #[.int .i64 x.w0, .int .i64 x.w1] 24) = V at qB qR qS hO hW ⊢
      obtain ⟨bS, hbS⟩ : ∃ b, wr.heap.size = b := ⟨_, rfl⟩
      rw [hbS] at qS zR ⊢
      clear hbS
      refine (M1.out _ _ _ qS qR).mono ?_
      rintro e v1 ⟨rfl, hb⟩
      replace qB := qB.call hb
      replace qR := qR.call hb
      replace qS := qS.call hb
      replace hO := hO.call hb
      replace hW := bwS hW (Nat.le_refl _) hb
      clear hb M1
      obtain ⟨a0, a1, a2, a3, a4, a5, a6, a7⟩ := qB.c8
      have fb0 := qB.free 2
      have fb1 := qB.free 3
      have zB := qB.lt
      go_wp2_with fail
      clear a0 a1 a2 a3 a4 a5 a6 a7 fb0 fb1 zB
      replace qB : Blk _ _ #[.int .i64 x.b0, .int .i64 x.b1, .int .i64 W0, .int .i64 W1, .int .i64 x.q0, .int .i64 x.q1, .int .i64 S0, .int .i64 S1] _ := (qB.set 2 (.int .i64 W0)).set 3 (.int .i64 W1)
      replace qR := qR.oth2 (c := w.heap.size + 1) (j := 2) (k := 3) (by omega) (.int .i64 W0) (.int .i64 W1)
      replace qS := qS.oth2 (c := w.heap.size + 1) (j := 2) (k := 3) (by omega) (.int .i64 W0) (.int .i64 W1)
      replace hO := hO.oth2 (c := w.heap.size + 1) (j := 2) (k := 3) (by omega) (.int .i64 W0) (.int .i64 W1)
      replace hW := below_set2 hW (c := w.heap.size + 1) (j := 2) (k := 3) (by omega) (.int .i64 W0) (.int .i64 W1)
      generalize (v1.setCell ⟨w.heap.size + 1, 2, none⟩ (.int .i64 W0)).setCell ⟨w.heap.size + 1, 3, none⟩ (.int .i64 W1) = V2 at qB qR qS hO hW ⊢
      refine (N1.out _ _ _ qR qS).mono ?_
      rintro e v2 ⟨rfl, hb⟩
      replace qB := qB.call hb
      replace qR := qR.call hb
      replace hO := hO.call hb
      replace hW := bwS hW (Nat.le_refl _) hb
      clear hb N1 qS
      obtain ⟨a0, a1⟩ := qR.c2
      have fb0 := qR.free 0
      have fb1 := qR.free 1
      have zR2 := qR.lt
      have qR2 : Blk _ _ #[.int .i64 V0, .int .i64 V1] _ := (qR.set 0 (.int .i64 V0)).set 1 (.int .i64 V1)
      replace qB := qB.oth2 (c := w1.heap.size) (j := 0) (k := 1) (by omega) (.int .i64 V0) (.int .i64 V1)
      replace hO := hO.oth2 (c := w1.heap.size) (j := 0) (k := 1) (by omega) (.int .i64 V0) (.int .i64 V1)
      replace hW := below_set2 hW (c := w1.heap.size) (j := 0) (k := 1) (by omega) (.int .i64 V0) (.int .i64 V1)
      go_wp2
      go_roundw
      case rel => exact ⟨2, by omega, by go_num, fun h => (by omega), fun h => (by omega), fun _ => ⟨qB, qR2⟩, fun h => (by omega), hO, hW⟩
      case measure => simp [intOf]
    · -- round 2
      obtain ⟨qB, qR⟩ := f2 rfl
      clear f0 f1 f2 f3 i0 i1 M0 N0 M1 N1
      obtain ⟨a0, a1, a2, a3, a4, a5, a6, a7⟩ := qB.c8
      have zB := qB.lt
      have zR := qR.lt
      have qS := Blk.new wr #[.int .i64 x.b0, .int .i64 x.b1] 24
      go_wp2_with fail
      clear a0 a1 a2 a3 a4 a5 a6 a7 zB
      replace qB := qB.alloc (.cells #[.int .i64 x.b0, .int .i64 x.b1] 24)
      replace qR := qR.alloc (.cells #[.int .i64 x.b0, .int .i64 x.b1] 24)
      replace hO := hO.alloc (.cells #[.int .i64 x.b0, .int .i64 x.b1] 24)
      replace hW := bwA hW (Nat.le_refl _) (.cells #[.int .i64 x.b0, .int .i64 x.b1] 24)
      generalize wr.alloc (.cells #[.int .i64 x.b0, .int .i64 x.b1] 24) = V at qB qR qS hO hW ⊢
      obtain ⟨bS, hbS⟩ : ∃ b, wr.heap.size = b := ⟨_, rfl⟩
      rw [hbS] at qS zR ⊢
      clear hbS
      refine (M2.out _ _ _ qS qR).mono ?_
      rintro e v1 ⟨rfl, hb⟩
      replace qB := qB.call hb
      replace qR := qR.call hb
      replace qS := qS.call hb
      replace hO := hO.call hb
      replace hW := bwS hW (Nat.le_refl _) hb
      clear hb M2
      obtain ⟨a0, a1, a2, a3, a4, a5, a6, a7⟩ := qB.c8
      have fb0 := qB.free 0
      have fb1 := qB.free 1
      have zB := qB.lt
      go_wp2_with fail
      clear a0 a1 a2 a3 a4 a5 a6 a7 fb0 fb1 zB
      replace qB : Blk _ _ #[.int .i64 B0, .int .i64 B1, .int .i64 W0, .int .i64 W1, .int .i64 x.q0, .int .i64 x.q1, .int .i64 S0, .int .i64 S1] _ := (qB.set 0 (.int .i64 B0)).set 1 (.int .i64 B1)
      replace qR := qR.oth2 (c := w.heap.size + 1) (j := 0) (k := 1) (by omega) (.int .i64 B0) (.int .i64 B1)
      replace qS := qS.oth2 (c := w.heap.size + 1) (j := 0) (k := 1) (by omega) (.int .i64 B0) (.int .i64 B1)
      replace hO := hO.oth2 (c := w.heap.size + 1) (j := 0) (k := 1) (by omega) (.int .i64 B0) (.int .i64 B1)
      replace hW := below_set2 hW (c := w.heap.size + 1) (j := 0) (k := 1) (by omega) (.int .i64 B0) (.int .i64 B1)
      generalize (v1.setCell ⟨w.heap.size + 1, 0, none⟩ (.int .i64 B0)).setCell ⟨w.heap.size + 1, 1, none⟩ (.int .i64 B1) = V2 at qB qR qS hO hW ⊢
      refine (N2.out _ _ _ qR qS).mono ?_
      rintro e v2 ⟨rfl, hb⟩
      replace qB := qB.call hb
      replace qR := qR.call hb
      replace hO := hO.call hb
      replace hW := bwS hW (Nat.le_refl _) hb
      clear hb N2 qS
      obtain ⟨a0, a1⟩ := qR.c2
      have fb0 := qR.free 0
      have fb1 := qR.free 1
      have zR2 := qR.lt
      have qR2 : Blk _ _ #[.int .i64 T0, .int .i64 T1] _ := (qR.set 0 (.int .i64 T0)).set 1 (.int .i64 T1)
      replace qB := qB.oth2 (c := w1.heap.size) (j := 0) (k := 1) (by omega) (.int .i64 T0) (.int .i64 T1)
      replace hO := hO.oth2 (c := w1.heap.size) (j := 0) (k := 1) (by omega) (.int .i64 T0) (.int .i64 T1)
      replace hW := below_set2 hW (c := w1.heap.size) (j := 0) (k := 1) (by omega) (.int .i64 T0) (.int .i64 T1)
      go_wp2
      go_roundw
      case rel => exact ⟨3, by omega, by go_num, fun h => (by omega), fun h => (by omega), fun h => (by omega), fun _ => ⟨qB, qR2⟩, hO, hW⟩
      case measure => simp [intOf]
    · obtain ⟨qB, qR⟩ := f3 rfl
      clear f0 f1 f2 f3 i0 i1 i2 M0 M1 M2 N0 N1 N2 qR
      obtain ⟨a0, a1, a2, a3, a4, a5, a6, a7⟩ := qB.c8
      have zB := qB.lt
      obtain ⟨x0, x1, x2, x3, x4, x5, x6, x7, hR⟩ := hO
      obtain ⟨r0, r1, r2, r3, r4, r5, r6, r7⟩ := hR.c8
      have g0 := hR.free 0
      have g1 := hR.free 1
      have g2 := hR.free 2
      have g3 := hR.free 3
      have g4 := hR.free 4
      have g5 := hR.free 5
      have g6 := hR.free 6
      have g7 := hR.free 7
      have zR := hR.lt
      have HQ := Lib.hid (hR.set8 (.int .i64 B0) (.int .i64 B1) (.int .i64 W0) (.int .i64 W1) (.int .i64 x.q0) (.int .i64 x.q1) (.int .i64 S0) (.int .i64 S1)).c8
      go_wp2
      obtain ⟨z0, z1, z2, z3, z4, z5, z6, z7⟩ := HQ.out
      refine bodyPost_ret (v := .agg #[.int .i64 B0, .int .i64 B1, .int .i64 W0, .int .i64 W1, .int .i64 x.q0, .int .i64 x.q1, .int .i64 S0, .int .i64 S1]) (by simp [results, Tryz.results76, go_sem, z0, z1, z2, z3, z4, z5, z6, z7]) rfl ⟨by obtain ⟨y0, y1, y2, y3, y4, y5, y6, y7⟩ := HY.out; rw [y0, y1, y2, y3, y4, y5, y6, y7], ?_⟩
      iterate 8 refine Below.setCell ?_ (by simp; omega) _
      exact hW

set_option maxRecDepth 100000 in
set_option maxHeartbeats 8000000 in
theorem join_any (x y : Ic) (w : World) :
    Calls Tryz.prog 79 #[.agg #[.int .i64 x.b0, .int .i64 x.b1, .int .i64 x.w0, .int .i64 x.w1, .int .i64 x.q0, .int .i64 x.q1, .int .i64 x.s0, .int .i64 x.s1], .agg #[.int .i64 y.b0, .int .i64 y.b1, .int .i64 y.w0, .int .i64 y.w1, .int .i64 y.q0, .int .i64 y.q1, .int .i64 y.s0, .int .i64 y.s1]] w fun e w' => e = .returned (.agg #[.int .i64 (min x.b0 y.b0), .int .i64 (max x.b1 y.b1), .int .i64 (min x.w0 y.w0), .int .i64 (max x.w1 y.w1), .int .i64 (min x.q0 y.q0), .int .i64 (max x.q1 y.q1), .int .i64 (min x.s0 y.s0), .int .i64 (max x.s1 y.s1)]) ∧ Below w.heap.size w w' := by
  have jX := ((Blk.new w #[.int .i64 x.b0, .int .i64 x.b1, .int .i64 x.w0, .int .i64 x.w1, .int .i64 x.q0, .int .i64 x.q1, .int .i64 x.s0, .int .i64 x.s1] 105).alloc (.cells #[.int .i64 y.b0, .int .i64 y.b1, .int .i64 y.w0, .int .i64 y.w1, .int .i64 y.q0, .int .i64 y.q1, .int .i64 y.s0, .int .i64 y.s1] 105)).alloc (.cells #[.int .i64 0, .int .i64 0, .int .i64 0, .int .i64 0, .int .i64 0, .int .i64 0, .int .i64 0, .int .i64 0] 105)
  have jY := (Blk.new1 w (.cells #[.int .i64 x.b0, .int .i64 x.b1, .int .i64 x.w0, .int .i64 x.w1, .int .i64 x.q0, .int .i64 x.q1, .int .i64 x.s0, .int .i64 x.s1] 105) #[.int .i64 y.b0, .int .i64 y.b1, .int .i64 y.w0, .int .i64 y.w1, .int .i64 y.q0, .int .i64 y.q1, .int .i64 y.s0, .int .i64 y.s1] 105).alloc (.cells #[.int .i64 0, .int .i64 0, .int .i64 0, .int .i64 0, .int .i64 0, .int .i64 0, .int .i64 0, .int .i64 0] 105)
  have jR : Eight _ _ _ := ⟨_, _, _, _, _, _, _, _, Blk.new2 w (.cells #[.int .i64 x.b0, .int .i64 x.b1, .int .i64 x.w0, .int .i64 x.w1, .int .i64 x.q0, .int .i64 x.q1, .int .i64 x.s0, .int .i64 x.s1] 105) (.cells #[.int .i64 y.b0, .int .i64 y.b1, .int .i64 y.w0, .int .i64 y.w1, .int .i64 y.q0, .int .i64 y.q1, .int .i64 y.s0, .int .i64 y.s1] 105) #[.int .i64 0, .int .i64 0, .int .i64 0, .int .i64 0, .int .i64 0, .int .i64 0, .int .i64 0, .int .i64 0] 105⟩
  have jB : Below w.heap.size w (((w.alloc (.cells #[.int .i64 x.b0, .int .i64 x.b1, .int .i64 x.w0, .int .i64 x.w1, .int .i64 x.q0, .int .i64 x.q1, .int .i64 x.s0, .int .i64 x.s1] 105)).alloc (.cells #[.int .i64 y.b0, .int .i64 y.b1, .int .i64 y.w0, .int .i64 y.w1, .int .i64 y.q0, .int .i64 y.q1, .int .i64 y.s0, .int .i64 y.s1] 105)).alloc (.cells #[.int .i64 0, .int .i64 0, .int .i64 0, .int .i64 0, .int .i64 0, .int .i64 0, .int .i64 0, .int .i64 0] 105)) := by (repeat (first | exact Below.refl _ _ | assumption | refine Below.drew ?_ | refine Below.drewN ?_ _ | refine blT ?_ | refine blU ?_))
  obtain ⟨y0, y1, y2, y3, y4, y5, y6, y7⟩ := jY.c8
  have i0 : ∀ w, (Instr.index 105 (.agg #[.int .i64 y.b0, .int .i64 y.b1, .int .i64 y.w0, .int .i64 y.w1, .int .i64 y.q0, .int .i64 y.q1, .int .i64 y.s0, .int .i64 y.s1]) (.int .i64 0)).run Tryz.prog w = .ok (.agg #[.int .i64 y.b0, .int .i64 y.b1]) w := fun _ => by kernel_rfl
  have i1 : ∀ w, (Instr.index 105 (.agg #[.int .i64 y.b0, .int .i64 y.b1, .int .i64 y.w0, .int .i64 y.w1, .int .i64 y.q0, .int .i64 y.q1, .int .i64 y.s0, .int .i64 y.s1]) (.int .i64 1)).run Tryz.prog w = .ok (.agg #[.int .i64 y.w0, .int .i64 y.w1]) w := fun _ => by kernel_rfl
  have i2 : ∀ w, (Instr.index 105 (.agg #[.int .i64 y.b0, .int .i64 y.b1, .int .i64 y.w0, .int .i64 y.w1, .int .i64 y.q0, .int .i64 y.q1, .int .i64 y.s0, .int .i64 y.s1]) (.int .i64 2)).run Tryz.prog w = .ok (.agg #[.int .i64 y.q0, .int .i64 y.q1]) w := fun _ => by kernel_rfl
  have i3 : ∀ w, (Instr.index 105 (.agg #[.int .i64 y.b0, .int .i64 y.b1, .int .i64 y.w0, .int .i64 y.w1, .int .i64 y.q0, .int .i64 y.q1, .int .i64 y.s0, .int .i64 y.s1]) (.int .i64 3)).run Tryz.prog w = .ok (.agg #[.int .i64 y.s0, .int .i64 y.s1]) w := fun _ => by kernel_rfl
  go_enter Tryz.func79, Tryz.ntmps79
  go_wp2_with fail
  clear y0 y1 y2 y3 y4 y5 y6 y7 jY
  go_loopw [8] (fun i wr => ∃ k : Nat, k ≤ 4 ∧ i = .int .i64 k ∧ (k = 0 → Blk wr w.heap.size #[.int .i64 x.b0, .int .i64 x.b1, .int .i64 x.w0, .int .i64 x.w1, .int .i64 x.q0, .int .i64 x.q1, .int .i64 x.s0, .int .i64 x.s1] 105) ∧ (k = 1 → Blk wr w.heap.size #[.int .i64 (min x.b0 y.b0), .int .i64 (max x.b1 y.b1), .int .i64 x.w0, .int .i64 x.w1, .int .i64 x.q0, .int .i64 x.q1, .int .i64 x.s0, .int .i64 x.s1] 105) ∧ (k = 2 → Blk wr w.heap.size #[.int .i64 (min x.b0 y.b0), .int .i64 (max x.b1 y.b1), .int .i64 (min x.w0 y.w0), .int .i64 (max x.w1 y.w1), .int .i64 x.q0, .int .i64 x.q1, .int .i64 x.s0, .int .i64 x.s1] 105) ∧ (k = 3 → Blk wr w.heap.size #[.int .i64 (min x.b0 y.b0), .int .i64 (max x.b1 y.b1), .int .i64 (min x.w0 y.w0), .int .i64 (max x.w1 y.w1), .int .i64 (min x.q0 y.q0), .int .i64 (max x.q1 y.q1), .int .i64 x.s0, .int .i64 x.s1] 105) ∧ (k = 4 → Blk wr w.heap.size #[.int .i64 (min x.b0 y.b0), .int .i64 (max x.b1 y.b1), .int .i64 (min x.w0 y.w0), .int .i64 (max x.w1 y.w1), .int .i64 (min x.q0 y.q0), .int .i64 (max x.q1 y.q1), .int .i64 (min x.s0 y.s0), .int .i64 (max x.s1 y.s1)] 105) ∧ Eight wr (w.heap.size + 1 + 1) 105 ∧ Below w.heap.size w wr) (fun i _ => 4 - (intOf i).toNat)
  case atStart => exact ⟨0, by omega, rfl, fun _ => jX, fun h => (by omega), fun h => (by omega), fun h => (by omega), fun h => (by omega), jR, jB⟩
  case round =>
    obtain ⟨k, hk, rfl, g0, g1, g2, g3, g4, hR, hB⟩ := hrel
    clear jX jR jB
    obtain rfl | rfl | rfl | rfl | rfl : k = 0 ∨ k = 1 ∨ k = 2 ∨ k = 3 ∨ k = 4 := by omega
    · -- round 0
      have hX := g0 rfl
      clear g0 g1 g2 g3 g4 i1 i2 i3
      have qX := hX.alloc (.cells #[.int .i64 y.b0, .int .i64 y.b1] 24)
      have qS := Blk.new wr #[.int .i64 y.b0, .int .i64 y.b1] 24
      have qR := hR.alloc (.cells #[.int .i64 y.b0, .int .i64 y.b1] 24)
      have qB := bwA hB (Nat.le_refl _) (.cells #[.int .i64 y.b0, .int .i64 y.b1] 24)
      have zS0 : w.heap.size < wr.heap.size := hX.lt
      clear hX hR hB
      go_wp2_with fail
      generalize wr.alloc (.cells #[.int .i64 y.b0, .int .i64 y.b1] 24) = V at qX qS qR qB ⊢
      generalize wr.heap.size = bS at qS zS0 ⊢
      refine region_tail 17 (by kernel_rfl) (by kernel_rfl) (fun U hU => ?_)
      replace qX := qX.drew
      replace qS := qS.drew
      replace qR : Eight V.drew _ _ := qR
      replace qB := qB.drew
      rw [hU] at qX qS qR qB
      clear hU
      obtain ⟨a0, a1, a2, a3, a4, a5, a6, a7⟩ := qX.c8
      obtain ⟨s0, s1⟩ := qS.c2
      have f0 := qX.free 0
      have f1 := qX.free 1
      have zX := qX.lt
      have zS := qS.lt
      simp only [List.take_succ_cons, List.take_zero, List.drop_succ_cons, List.drop_zero]
      repeat still_step
      refine wpStill_nil ?_
      have qX2 : Blk _ _ #[.int .i64 (min x.b0 y.b0), .int .i64 (max x.b1 y.b1), .int .i64 x.w0, .int .i64 x.w1, .int .i64 x.q0, .int .i64 x.q1, .int .i64 x.s0, .int .i64 x.s1] _ := (qX.set 0 (.int .i64 (min x.b0 y.b0))).set 1 (.int .i64 (max x.b1 y.b1))
      have qR2 := qR.oth2 (c := w.heap.size) (j := 0) (k := 1) (by omega) (.int .i64 (min x.b0 y.b0)) (.int .i64 (max x.b1 y.b1))
      have qB2 := below_set2 qB (c := w.heap.size) (j := 0) (k := 1) (by omega) (.int .i64 (min x.b0 y.b0)) (.int .i64 (max x.b1 y.b1))
      go_wp2
      go_roundw
      case rel => exact ⟨1, by omega, by go_num, fun h => (by omega), fun _ => qX2, fun h => (by omega), fun h => (by omega), fun h => (by omega), qR2, qB2⟩
      case measure => simp [intOf]
    · -- round 1
      have hX := g1 rfl
      clear g0 g1 g2 g3 g4 i0 i2 i3
      have qX := hX.alloc (.cells #[.int .i64 y.w0, .int .i64 y.w1] 24)
      have qS := Blk.new wr #[.int .i64 y.w0, .int .i64 y.w1] 24
      have qR := hR.alloc (.cells #[.int .i64 y.w0, .int .i64 y.w1] 24)
      have qB := bwA hB (Nat.le_refl _) (.cells #[.int .i64 y.w0, .int .i64 y.w1] 24)
      have zS0 : w.heap.size < wr.heap.size := hX.lt
      clear hX hR hB
      go_wp2_with fail
      generalize wr.alloc (.cells #[.int .i64 y.w0, .int .i64 y.w1] 24) = V at qX qS qR qB ⊢
      generalize wr.heap.size = bS at qS zS0 ⊢
      refine region_tail 17 (by kernel_rfl) (by kernel_rfl) (fun U hU => ?_)
      replace qX := qX.drew
      replace qS := qS.drew
      replace qR : Eight V.drew _ _ := qR
      replace qB := qB.drew
      rw [hU] at qX qS qR qB
      clear hU
      obtain ⟨a0, a1, a2, a3, a4, a5, a6, a7⟩ := qX.c8
      obtain ⟨s0, s1⟩ := qS.c2
      have f0 := qX.free 2
      have f1 := qX.free 3
      have zX := qX.lt
      have zS := qS.lt
      simp only [List.take_succ_cons, List.take_zero, List.drop_succ_cons, List.drop_zero]
      repeat still_step
      refine wpStill_nil ?_
      have qX2 : Blk _ _ #[.int .i64 (min x.b0 y.b0), .int .i64 (max x.b1 y.b1), .int .i64 (min x.w0 y.w0), .int .i64 (max x.w1 y.w1), .int .i64 x.q0, .int .i64 x.q1, .int .i64 x.s0, .int .i64 x.s1] _ := (qX.set 2 (.int .i64 (min x.w0 y.w0))).set 3 (.int .i64 (max x.w1 y.w1))
      have qR2 := qR.oth2 (c := w.heap.size) (j := 2) (k := 3) (by omega) (.int .i64 (min x.w0 y.w0)) (.int .i64 (max x.w1 y.w1))
      have qB2 := below_set2 qB (c := w.heap.size) (j := 2) (k := 3) (by omega) (.int .i64 (min x.w0 y.w0)) (.int .i64 (max x.w1 y.w1))
      go_wp2
      go_roundw
      case rel => exact ⟨2, by omega, by go_num, fun h => (by omega), fun h => (by omega), fun _ => qX2, fun h => (by omega), fun h => (by omega), qR2, qB2⟩
      case measure => simp [intOf]
    · -- round 2
      have hX := g2 rfl
      clear g0 g1 g2 g3 g4 i0 i1 i3
      have qX := hX.alloc (.cells #[.int .i64 y.q0, .int .i64 y.q1] 24)
      have qS := Blk.new wr #[.int .i64 y.q0, .int .i64 y.q1] 24
      have qR := hR.alloc (.cells #[.int .i64 y.q0, .int .i64 y.q1] 24)
      have qB := bwA hB (Nat.le_refl _) (.cells #[.int .i64 y.q0, .int .i64 y.q1] 24)
      have zS0 : w.heap.size < wr.heap.size := hX.lt
      clear hX hR hB
      go_wp2_with fail
      generalize wr.alloc (.cells #[.int .i64 y.q0, .int .i64 y.q1] 24) = V at qX qS qR qB ⊢
      generalize wr.heap.size = bS at qS zS0 ⊢
      refine region_tail 17 (by kernel_rfl) (by kernel_rfl) (fun U hU => ?_)
      replace qX := qX.drew
      replace qS := qS.drew
      replace qR : Eight V.drew _ _ := qR
      replace qB := qB.drew
      rw [hU] at qX qS qR qB
      clear hU
      obtain ⟨a0, a1, a2, a3, a4, a5, a6, a7⟩ := qX.c8
      obtain ⟨s0, s1⟩ := qS.c2
      have f0 := qX.free 4
      have f1 := qX.free 5
      have zX := qX.lt
      have zS := qS.lt
      simp only [List.take_succ_cons, List.take_zero, List.drop_succ_cons, List.drop_zero]
      repeat still_step
      refine wpStill_nil ?_
      have qX2 : Blk _ _ #[.int .i64 (min x.b0 y.b0), .int .i64 (max x.b1 y.b1), .int .i64 (min x.w0 y.w0), .int .i64 (max x.w1 y.w1), .int .i64 (min x.q0 y.q0), .int .i64 (max x.q1 y.q1), .int .i64 x.s0, .int .i64 x.s1] _ := (qX.set 4 (.int .i64 (min x.q0 y.q0))).set 5 (.int .i64 (max x.q1 y.q1))
      have qR2 := qR.oth2 (c := w.heap.size) (j := 4) (k := 5) (by omega) (.int .i64 (min x.q0 y.q0)) (.int .i64 (max x.q1 y.q1))
      have qB2 := below_set2 qB (c := w.heap.size) (j := 4) (k := 5) (by omega) (.int .i64 (min x.q0 y.q0)) (.int .i64 (max x.q1 y.q1))
      go_wp2
      go_roundw
      case rel => exact ⟨3, by omega, by go_num, fun h => (by omega), fun h => (by omega), fun h => (by omega), fun _ => qX2, fun h => (by omega), qR2, qB2⟩
      case measure => simp [intOf]
    · -- round 3
      have hX := g3 rfl
      clear g0 g1 g2 g3 g4 i0 i1 i2
      have qX := hX.alloc (.cells #[.int .i64 y.s0, .int .i64 y.s1] 24)
      have qS := Blk.new wr #[.int .i64 y.s0, .int .i64 y.s1] 24
      have qR := hR.alloc (.cells #[.int .i64 y.s0, .int .i64 y.s1] 24)
      have qB := bwA hB (Nat.le_refl _) (.cells #[.int .i64 y.s0, .int .i64 y.s1] 24)
      have zS0 : w.heap.size < wr.heap.size := hX.lt
      clear hX hR hB
      go_wp2_with fail
      generalize wr.alloc (.cells #[.int .i64 y.s0, .int .i64 y.s1] 24) = V at qX qS qR qB ⊢
      generalize wr.heap.size = bS at qS zS0 ⊢
      refine region_tail 17 (by kernel_rfl) (by kernel_rfl) (fun U hU => ?_)
      replace qX := qX.drew
      replace qS := qS.drew
      replace qR : Eight V.drew _ _ := qR
      replace qB := qB.drew
      rw [hU] at qX qS qR qB
      clear hU
      obtain ⟨a0, a1, a2, a3, a4, a5, a6, a7⟩ := qX.c8
      obtain ⟨s0, s1⟩ := qS.c2
      have f0 := qX.free 6
      have f1 := qX.free 7
      have zX := qX.lt
      have zS := qS.lt
      simp only [List.take_succ_cons, List.take_zero, List.drop_succ_cons, List.drop_zero]
      repeat still_step
      refine wpStill_nil ?_
      have qX2 : Blk _ _ #[.int .i64 (min x.b0 y.b0), .int .i64 (max x.b1 y.b1), .int .i64 (min x.w0 y.w0), .int .i64 (max x.w1 y.w1), .int .i64 (min x.q0 y.q0), .int .i64 (max x.q1 y.q1), .int .i64 (min x.s0 y.s0), .int .i64 (max x.s1 y.s1)] _ := (qX.set 6 (.int .i64 (min x.s0 y.s0))).set 7 (.int .i64 (max x.s1 y.s1))
      have qR2 := qR.oth2 (c := w.heap.size) (j := 6) (k := 7) (by omega) (.int .i64 (min x.s0 y.s0)) (.int .i64 (max x.s1 y.s1))
      have qB2 := below_set2 qB (c := w.heap.size) (j := 6) (k := 7) (by omega) (.int .i64 (min x.s0 y.s0)) (.int .i64 (max x.s1 y.s1))
      go_wp2
      go_roundw
      case rel => exact ⟨4, by omega, by go_num, fun h => (by omega), fun h => (by omega), fun h => (by omega), fun h => (by omega), fun _ => qX2, qR2, qB2⟩
      case measure => simp [intOf]
    · have hX := g4 rfl
      clear g0 g1 g2 g3 g4 i0 i1 i2 i3
      obtain ⟨a0, a1, a2, a3, a4, a5, a6, a7⟩ := hX.c8
      have zX := hX.lt
      obtain ⟨x0, x1, x2, x3, x4, x5, x6, x7, hQ⟩ := hR
      obtain ⟨r0, r1, r2, r3, r4, r5, r6, r7⟩ := hQ.c8
      have f0 := hQ.free 0
      have f1 := hQ.free 1
      have f2 := hQ.free 2
      have f3 := hQ.free 3
      have f4 := hQ.free 4
      have f5 := hQ.free 5
      have f6 := hQ.free 6
      have f7 := hQ.free 7
      have zR := hQ.lt
      have HQ := Lib.hid (hQ.set8 (.int .i64 (min x.b0 y.b0)) (.int .i64 (max x.b1 y.b1)) (.int .i64 (min x.w0 y.w0)) (.int .i64 (max x.w1 y.w1)) (.int .i64 (min x.q0 y.q0)) (.int .i64 (max x.q1 y.q1)) (.int .i64 (min x.s0 y.s0)) (.int .i64 (max x.s1 y.s1))).c8
      go_wp2
      obtain ⟨z0, z1, z2, z3, z4, z5, z6, z7⟩ := HQ.out
      refine bodyPost_ret (v := .agg #[.int .i64 (min x.b0 y.b0), .int .i64 (max x.b1 y.b1), .int .i64 (min x.w0 y.w0), .int .i64 (max x.w1 y.w1), .int .i64 (min x.q0 y.q0), .int .i64 (max x.q1 y.q1), .int .i64 (min x.s0 y.s0), .int .i64 (max x.s1 y.s1)]) (by simp [results, Tryz.results79, go_sem, z0, z1, z2, z3, z4, z5, z6, z7]) rfl ⟨rfl, ?_⟩
      iterate 8 refine Below.setCell ?_ (by simp; omega) _
      exact hB
end Go.Proofs.YtdbiijldincoiaaGreat

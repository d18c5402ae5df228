/-
  Bearing thickness, soundness, and the tests of frost.Ready: their contracts.
-/
import Derived.Test.YtdbiijldincoiaaGreatTail
import Derived.Test.YtdbiijldincoiaaGreatRun
import Derived.Test.YtdbiijldincoiaaGreatField
set_option linter.unusedVariables false
set_option linter.unusedSimpArgs false
namespace Go.Proofs.YtdbiijldincoiaaGreat
open Go.RowKit

def soundI (q0 q1 : Int) : Int := if q1 = 0 then 1 else if 0 < q0 then 2 else 3
def bearL (b0 w0 h0 : Int) : Int := b0 + gotL w0 h0
def bearH (b1 w1 h1 : Int) : Int := b1 + gotH w1 h1

theorem sound_any (b0 b1 w0 w1 q0 q1 s0 s1 : Int) (w : World) :
    Calls Tryz.prog 46 #[.agg #[.int .i64 b0, .int .i64 b1, .int .i64 w0, .int .i64 w1, .int .i64 q0, .int .i64 q1, .int .i64 s0, .int .i64 s1]] w fun e w' => e = .returned (.int .i64 (soundI q0 q1)) ∧ Below w.heap.size w w' := by
  by_cases h1 : q1 = 0
  · have hb : (q1 == 0) = true := by simpa using h1
    have HR : Hid (soundI q0 q1 = 1) := by show soundI q0 q1 = 1; unfold soundI; rw [if_pos h1]
    clear h1
    go_enter Tryz.func46, Tryz.ntmps46
    go_wp2
    go_ret
    exact ⟨ret_int HR.out.symm, by (repeat (first | exact Below.refl _ _ | assumption | refine Below.drew ?_ | refine Below.drewN ?_ _ | refine blT ?_ | refine blU ?_))⟩
  · have hb : (q1 == 0) = false := by simpa using h1
    by_cases h2 : 0 < q0
    · have HR : Hid (soundI q0 q1 = 2) := by show soundI q0 q1 = 2; unfold soundI; rw [if_neg h1, if_pos h2]
      clear h1
      go_enter Tryz.func46, Tryz.ntmps46
      go_wp2
      go_ret
      exact ⟨ret_int HR.out.symm, by (repeat (first | exact Below.refl _ _ | assumption | refine Below.drew ?_ | refine Below.drewN ?_ _ | refine blT ?_ | refine blU ?_))⟩
    · have HR : Hid (soundI q0 q1 = 3) := by show soundI q0 q1 = 3; unfold soundI; rw [if_neg h1, if_neg h2]
      clear h1
      go_enter Tryz.func46, Tryz.ntmps46
      go_wp2
      go_ret
      exact ⟨ret_int HR.out.symm, by (repeat (first | exact Below.refl _ _ | assumption | refine Below.drew ?_ | refine Below.drewN ?_ _ | refine blT ?_ | refine blU ?_))⟩

theorem share_facts (a p : Int) (c1 : 0 ≤ a) (c2 : a ≤ 1000000000) (p1 : 0 ≤ p) (p2 : p ≤ 1000000) : 0 ≤ a * p ∧ a * p ≤ 1000000000000000 ∧ 0 ≤ gotL a p ∧ gotL a p ≤ 1000000000 ∧ 0 ≤ gotH a p ∧ gotH a p ≤ 1000000001 := by
  have x : 0 ≤ a * p := Int.mul_nonneg c1 p1
  have y : a * p ≤ 1000000000 * 1000000 := Int.mul_le_mul c2 p2 p1 (by omega)
  unfold gotL gotH
  omega

set_option maxRecDepth 100000 in
set_option maxHeartbeats 2000000 in
theorem bears_any (gr la : Int) (va : Option Addr) (nc vcap : Nat) (m0 m1 so h0 h1 : Int) (b0 b1 w0 w1 q0 q1 s0 s1 : Int) (w : World)
    (i1 : 0 ≤ b0) (i2 : b0 ≤ 1000000000) (i3 : 0 ≤ b1) (i4 : b1 ≤ 1000000000) (a1 : 0 ≤ w0) (a2 : w0 ≤ 1000000000) (a3 : 0 ≤ w1) (a4 : w1 ≤ 1000000000) (k1 : 0 ≤ h0) (k2 : h0 ≤ 1000000) (k3 : 0 ≤ h1) (k4 : h1 ≤ 1000000) :
    Calls Tryz.prog 45 #[.agg #[.int .i64 gr, .int .i64 la, (.slice va nc vcap), .int .i64 m0, .int .i64 m1, .int .i64 so, .int .i64 h0, .int .i64 h1], .agg #[.int .i64 b0, .int .i64 b1, .int .i64 w0, .int .i64 w1, .int .i64 q0, .int .i64 q1, .int .i64 s0, .int .i64 s1]] w fun e w' => e = .returned (.agg #[.int .i64 (bearL b0 w0 h0), .int .i64 (bearH b1 w1 h1)]) ∧ Below w.heap.size w w' := by
  obtain ⟨t1, t2, t3, t4, _, _⟩ := share_facts w0 h0 a1 a2 k1 k2
  obtain ⟨t5, t6, _, _, t7, t8⟩ := share_facts w1 h1 a3 a4 k3 k4
  have hS : ∀ W, Calls Tryz.prog 71 #[.agg #[.int .i64 w0, .int .i64 w1], .agg #[.int .i64 h0, .int .i64 h1]] W fun e w' => e = .returned (.agg #[.int .i64 (gotL w0 h0), .int .i64 (gotH w1 h1)]) ∧ Below W.heap.size W w' := fun W => shares_any _ _ _ _ W t1 (by omega) t5 (by omega)
  have HG : Hid (bearL b0 w0 h0 = b0 + gotL w0 h0 ∧ bearH b1 w1 h1 = b1 + gotH w1 h1) := ⟨rfl, rfl⟩
  generalize gotL w0 h0 = X at t3 t4 hS HG
  generalize gotH w1 h1 = Y at t7 t8 hS HG
  have HS := Lib.hid hS
  clear hS t1 t2 t5 t6
  go_enter Tryz.func45, Tryz.ntmps45
  go_wp2_with fail
  refine (HS.out _).mono ?_
  rintro e w2 ⟨rfl, hb2⟩
  have jI := ((Blk.new1 w (.cells #[.int .i64 gr, .int .i64 la, .slice va nc vcap, .int .i64 m0, .int .i64 m1, .int .i64 so, .int .i64 h0, .int .i64 h1] 26) #[.int .i64 b0, .int .i64 b1, .int .i64 w0, .int .i64 w1, .int .i64 q0, .int .i64 q1, .int .i64 s0, .int .i64 s1] 28).alloc (.cells #[.int .i64 0, .int .i64 0] 24)).call hb2
  have jR := (Blk.new2 w (.cells #[.int .i64 gr, .int .i64 la, .slice va nc vcap, .int .i64 m0, .int .i64 m1, .int .i64 so, .int .i64 h0, .int .i64 h1] 26) (.cells #[.int .i64 b0, .int .i64 b1, .int .i64 w0, .int .i64 w1, .int .i64 q0, .int .i64 q1, .int .i64 s0, .int .i64 s1] 28) #[.int .i64 0, .int .i64 0] 24).call hb2
  have jB : Below w.heap.size w w2 := bwS (by (repeat (first | exact Below.refl _ _ | assumption | refine Below.drew ?_ | refine Below.drewN ?_ _ | refine blT ?_ | refine blU ?_))) (Nat.le_refl _) hb2
  clear hb2
  obtain ⟨c0, c1, c2, c3, c4, c5, c6, c7⟩ := jI.c8
  obtain ⟨r0, r1⟩ := jR.c2
  have f0 := jR.free 0
  have f1 := jR.free 1
  have zI := jI.lt
  have zR := jR.lt
  have hf := (((jR.set 0 (.int .i64 (b0 + X))).set 1 (.int .i64 (b1 + Y))).alloc (.cells #[.int .i64 X, .int .i64 Y] 24)).c2
  have HF := Lib.hid hf
  clear hf
  go_wp2
  obtain ⟨z0, z1⟩ := HF.out
  refine bodyPost_ret (v := .agg #[.int .i64 (b0 + X), .int .i64 (b1 + Y)]) (by simp [results, Tryz.results45, go_sem, z0, z1]) rfl ⟨by rw [HG.out.1, HG.out.2], ?_⟩
  exact bwA ((jB.setCell (by simp; omega) _).setCell (by simp; omega) _) (Nat.le_refl _) _


set_option maxRecDepth 100000 in
set_option maxHeartbeats 2000000 in
theorem rdy1_yes (gr la : Int) (va : Option Addr) (nc vcap : Nat) (m0 m1 so h0 h1 : Int) (b0 b1 w0 w1 q0 q1 s0 s1 need : Int) (bl bn : Nat) (w : World) (kl : Blk w bl #[.int .i64 gr, .int .i64 la, .slice va nc vcap, .int .i64 m0, .int .i64 m1, .int .i64 so, .int .i64 h0, .int .i64 h1] 26) (kn : Blk w bn #[.int .i64 need] 3) (i1 : 0 ≤ b0) (i2 : b0 ≤ 1000000000) (i3 : 0 ≤ b1) (i4 : b1 ≤ 1000000000) (a1 : 0 ≤ w0) (a2 : w0 ≤ 1000000000) (a3 : 0 ≤ w1) (a4 : w1 ≤ 1000000000) (k1 : 0 ≤ h0) (k2 : h0 ≤ 1000000) (k3 : 0 ≤ h1) (k4 : h1 ≤ 1000000) (hs : soundI q0 q1 = 1) :
    Calls Tryz.prog 50 #[.agg #[.int .i64 b0, .int .i64 b1, .int .i64 w0, .int .i64 w1, .int .i64 q0, .int .i64 q1, .int .i64 s0, .int .i64 s1], .pointer (some ⟨bl, 0, none⟩), .pointer (some ⟨bn, 0, none⟩)] w fun e w' => e = .returned (.bool (decide (need ≤ bearL b0 w0 h0))) ∧ Below w.heap.size w w' := by
  have hB : ∀ W, Calls Tryz.prog 45 #[.agg #[.int .i64 gr, .int .i64 la, (.slice va nc vcap), .int .i64 m0, .int .i64 m1, .int .i64 so, .int .i64 h0, .int .i64 h1], .agg #[.int .i64 b0, .int .i64 b1, .int .i64 w0, .int .i64 w1, .int .i64 q0, .int .i64 q1, .int .i64 s0, .int .i64 s1]] W fun e w' => e = .returned (.agg #[.int .i64 (bearL b0 w0 h0), .int .i64 (bearH b1 w1 h1)]) ∧ Below W.heap.size W w' := fun W => bears_any _ _ _ _ _ _ _ _ _ _ _ _ _ _ _ _ _ _ W i1 i2 i3 i4 a1 a2 a3 a4 k1 k2 k3 k4
  have hq : (soundI q0 q1 == 1) = true := by simp [hs]
  have HB := Lib.hid hB
  have hQ : ∀ W, Calls Tryz.prog 46 #[.agg #[.int .i64 b0, .int .i64 b1, .int .i64 w0, .int .i64 w1, .int .i64 q0, .int .i64 q1, .int .i64 s0, .int .i64 s1]] W fun e w' => e = .returned (.int .i64 (soundI q0 q1)) ∧ Below W.heap.size W w' := fun W => sound_any _ _ _ _ _ _ _ _ W
  have HQ := Lib.hid hQ
  clear hQ hB
  generalize soundI q0 q1 = S at hq HQ
  go_enter Tryz.func50, Tryz.ntmps50
  go_wp2_with fail
  refine wp_region_held_drew (S := (fun w' => Blk w' bl #[.int .i64 gr, .int .i64 la, .slice va nc vcap, .int .i64 m0, .int .i64 m1, .int .i64 so, .int .i64 h0, .int .i64 h1] 26 ∧ Blk w' bn #[.int .i64 need] 3 ∧ Blk w' w.heap.size #[.int .i64 b0, .int .i64 b1, .int .i64 w0, .int .i64 w1, .int .i64 q0, .int .i64 q1, .int .i64 s0, .int .i64 s1] 28 ∧ Below w.heap.size w w')) (by kernel_rfl) ?_ (fun hH => ?_)
  · (try dsimp only); (exact ⟨kl.alloc _, kn.alloc _, Blk.new _ _ _, by (repeat (first | exact Below.refl _ _ | assumption | refine Below.drew ?_ | refine Below.drewN ?_ _ | refine blT ?_ | refine blU ?_))⟩)
  refine tkY 0 (some 5) ?_ ?_ ?_
  rotate_left
  · intro w hS0; (try dsimp only at hS0); obtain ⟨kl, kn, ki, _⟩ := hS0; obtain ⟨l0, l1, l2, l3, l4, l5, l6, l7⟩ := kl.c8; obtain ⟨i0, i1, i2, i3, i4, i5, i6, i7⟩ := ki.c8; have n0 := kn.cell1;go_simp; (try with_reducible rfl)
  (try simp only [cq])
  refine wpAnyH_ready (rs := [1]) (by kernel_rfl) (by simp) ?_
  refine arc1 (some 6) fun K hK => ?_
  go_simp
  (refine (HQ.out _).mono ?_; rintro e w' ⟨rfl, hb⟩)
  refine hK.out _ _ ?_ (fun hH => ?_)
  · (exact ⟨hH.1.call hb, hH.2.1.call hb, hH.2.2.1.call hb, bwS hH.2.2.2 (Nat.le_refl _) hb⟩)
  clear hK K
  (try simp only [cq])
  refine tkY 2 (some 7) ?_ ?_ ?_
  rotate_left
  · intro w _; go_simp; (try with_reducible rfl)
  (try simp only [cq])
  refine tkY 3 (some 8) ?_ ?_ ?_
  rotate_left
  · intro w _; go_simp; (try with_reducible rfl)
  (try simp only [cq])
  refine tkY 4 (some 9) ?_ ?_ ?_
  rotate_left
  · intro w hS0; (try dsimp only at hS0); obtain ⟨kl, kn, ki, _⟩ := hS0; obtain ⟨l0, l1, l2, l3, l4, l5, l6, l7⟩ := kl.c8; obtain ⟨i0, i1, i2, i3, i4, i5, i6, i7⟩ := ki.c8; have n0 := kn.cell1;go_simp; (try with_reducible rfl)
  (try simp only [cq])
  refine tkY 5 (some 10) ?_ ?_ ?_
  rotate_left
  · intro w hS0; (try dsimp only at hS0); obtain ⟨kl, kn, ki, _⟩ := hS0; obtain ⟨l0, l1, l2, l3, l4, l5, l6, l7⟩ := kl.c8; obtain ⟨i0, i1, i2, i3, i4, i5, i6, i7⟩ := ki.c8; have n0 := kn.cell1;go_simp; (try with_reducible rfl)
  (try simp only [cq])
  refine tkY 8 (some 13) ?_ ?_ ?_
  rotate_left
  · intro w hS0; (try dsimp only at hS0); obtain ⟨kl, kn, ki, _⟩ := hS0; obtain ⟨l0, l1, l2, l3, l4, l5, l6, l7⟩ := kl.c8; obtain ⟨i0, i1, i2, i3, i4, i5, i6, i7⟩ := ki.c8; have n0 := kn.cell1;go_simp; (try with_reducible rfl)
  (try simp only [cq])
  refine wpAnyH_ready (rs := [6]) (by kernel_rfl) (by simp) ?_
  refine arc1 (some 11) fun K hK => ?_
  go_simp
  (refine (HB.out _).mono ?_; rintro e w' ⟨rfl, hb⟩)
  refine hK.out _ _ ?_ (fun hH => ?_)
  · (exact ⟨hH.1.call hb, hH.2.1.call hb, hH.2.2.1.call hb, bwS hH.2.2.2 (Nat.le_refl _) hb⟩)
  clear hK K
  (try simp only [cq])
  refine tkY 7 (some 12) ?_ ?_ ?_
  rotate_left
  · intro w _; go_simp; (try with_reducible rfl)
  (try simp only [cq])
  refine tkY 9 (some 14) ?_ ?_ ?_
  rotate_left
  · intro w _; go_simp; (try with_reducible rfl)
  (try simp only [cq])
  refine tkY 10 (some 15) ?_ ?_ ?_
  rotate_left
  · intro w _; go_simp; (try with_reducible rfl)
  (try simp only [cq])
  refine tkY 11 (some 4) ?_ ?_ ?_
  rotate_left
  · intro w _; go_simp; (try with_reducible rfl)
  (try simp only [cq])
  refine wpAnyH_done (by kernel_rfl) ?_ _
  (try dsimp only [Act.put])
  (try simp only [cq])
  have hBB : Below w.heap.size w _ := hH.2.2.2
  clear hH
  go_wp2
  go_ret
  exact ⟨rfl, hBB⟩

set_option maxRecDepth 100000 in
set_option maxHeartbeats 2000000 in
theorem rdy1_no (gr la : Int) (va : Option Addr) (nc vcap : Nat) (m0 m1 so h0 h1 : Int) (b0 b1 w0 w1 q0 q1 s0 s1 need : Int) (bl bn : Nat) (w : World) (kl : Blk w bl #[.int .i64 gr, .int .i64 la, .slice va nc vcap, .int .i64 m0, .int .i64 m1, .int .i64 so, .int .i64 h0, .int .i64 h1] 26) (kn : Blk w bn #[.int .i64 need] 3) (i1 : 0 ≤ b0) (i2 : b0 ≤ 1000000000) (i3 : 0 ≤ b1) (i4 : b1 ≤ 1000000000) (a1 : 0 ≤ w0) (a2 : w0 ≤ 1000000000) (a3 : 0 ≤ w1) (a4 : w1 ≤ 1000000000) (k1 : 0 ≤ h0) (k2 : h0 ≤ 1000000) (k3 : 0 ≤ h1) (k4 : h1 ≤ 1000000) (hs : ¬ soundI q0 q1 = 1) :
    Calls Tryz.prog 50 #[.agg #[.int .i64 b0, .int .i64 b1, .int .i64 w0, .int .i64 w1, .int .i64 q0, .int .i64 q1, .int .i64 s0, .int .i64 s1], .pointer (some ⟨bl, 0, none⟩), .pointer (some ⟨bn, 0, none⟩)] w fun e w' => e = .returned (.bool (false)) ∧ Below w.heap.size w w' := by
  have hB : ∀ W, Calls Tryz.prog 45 #[.agg #[.int .i64 gr, .int .i64 la, (.slice va nc vcap), .int .i64 m0, .int .i64 m1, .int .i64 so, .int .i64 h0, .int .i64 h1], .agg #[.int .i64 b0, .int .i64 b1, .int .i64 w0, .int .i64 w1, .int .i64 q0, .int .i64 q1, .int .i64 s0, .int .i64 s1]] W fun e w' => e = .returned (.agg #[.int .i64 (bearL b0 w0 h0), .int .i64 (bearH b1 w1 h1)]) ∧ Below W.heap.size W w' := fun W => bears_any _ _ _ _ _ _ _ _ _ _ _ _ _ _ _ _ _ _ W i1 i2 i3 i4 a1 a2 a3 a4 k1 k2 k3 k4
  have hq : (soundI q0 q1 == 1) = false := by simp [hs]
  have HB := Lib.hid hB
  have hQ : ∀ W, Calls Tryz.prog 46 #[.agg #[.int .i64 b0, .int .i64 b1, .int .i64 w0, .int .i64 w1, .int .i64 q0, .int .i64 q1, .int .i64 s0, .int .i64 s1]] W fun e w' => e = .returned (.int .i64 (soundI q0 q1)) ∧ Below W.heap.size W w' := fun W => sound_any _ _ _ _ _ _ _ _ W
  have HQ := Lib.hid hQ
  clear hQ hB
  generalize soundI q0 q1 = S at hq HQ
  go_enter Tryz.func50, Tryz.ntmps50
  go_wp2_with fail
  refine wp_region_held_drew (S := (fun w' => Blk w' bl #[.int .i64 gr, .int .i64 la, .slice va nc vcap, .int .i64 m0, .int .i64 m1, .int .i64 so, .int .i64 h0, .int .i64 h1] 26 ∧ Blk w' bn #[.int .i64 need] 3 ∧ Blk w' w.heap.size #[.int .i64 b0, .int .i64 b1, .int .i64 w0, .int .i64 w1, .int .i64 q0, .int .i64 q1, .int .i64 s0, .int .i64 s1] 28 ∧ Below w.heap.size w w')) (by kernel_rfl) ?_ (fun hH => ?_)
  · (try dsimp only); (exact ⟨kl.alloc _, kn.alloc _, Blk.new _ _ _, by (repeat (first | exact Below.refl _ _ | assumption | refine Below.drew ?_ | refine Below.drewN ?_ _ | refine blT ?_ | refine blU ?_))⟩)
  refine tkY 0 (some 5) ?_ ?_ ?_
  rotate_left
  · intro w hS0; (try dsimp only at hS0); obtain ⟨kl, kn, ki, _⟩ := hS0; obtain ⟨l0, l1, l2, l3, l4, l5, l6, l7⟩ := kl.c8; obtain ⟨i0, i1, i2, i3, i4, i5, i6, i7⟩ := ki.c8; have n0 := kn.cell1;go_simp; (try with_reducible rfl)
  (try simp only [cq])
  refine wpAnyH_ready (rs := [1]) (by kernel_rfl) (by simp) ?_
  refine arc1 (some 6) fun K hK => ?_
  go_simp
  (refine (HQ.out _).mono ?_; rintro e w' ⟨rfl, hb⟩)
  refine hK.out _ _ ?_ (fun hH => ?_)
  · (exact ⟨hH.1.call hb, hH.2.1.call hb, hH.2.2.1.call hb, bwS hH.2.2.2 (Nat.le_refl _) hb⟩)
  clear hK K
  (try simp only [cq])
  refine tkY 2 (some 7) ?_ ?_ ?_
  rotate_left
  · intro w _; go_simp; (try with_reducible rfl)
  (try simp only [cq])
  refine tkY 3 (some 8) ?_ ?_ ?_
  rotate_left
  · intro w _; go_simp; (try with_reducible rfl)
  (try simp only [cq])
  refine tkN 4 (some 9) ?_
  (try simp only [cq])
  refine tkN 5 (some 10) ?_
  (try simp only [cq])
  refine tkN 6 (some 11) ?_
  (try simp only [cq])
  refine tkN 7 (some 12) ?_
  (try simp only [cq])
  refine tkN 8 (some 13) ?_
  (try simp only [cq])
  refine tkN 9 (some 14) ?_
  (try simp only [cq])
  refine tkY 10 (some 15) ?_ ?_ ?_
  rotate_left
  · intro w _; go_simp; (try with_reducible rfl)
  (try simp only [cq])
  refine tkY 11 (some 4) ?_ ?_ ?_
  rotate_left
  · intro w _; go_simp; (try with_reducible rfl)
  (try simp only [cq])
  refine wpAnyH_done (by kernel_rfl) ?_ _
  (try dsimp only [Act.put])
  (try simp only [cq])
  have hBB : Below w.heap.size w _ := hH.2.2.2
  clear hH
  go_wp2
  go_ret
  exact ⟨rfl, hBB⟩

set_option maxRecDepth 100000 in
set_option maxHeartbeats 2000000 in
theorem rdy2_yes (gr la : Int) (va : Option Addr) (nc vcap : Nat) (m0 m1 so h0 h1 : Int) (b0 b1 w0 w1 q0 q1 s0 s1 need : Int) (bl bn : Nat) (w : World) (kl : Blk w bl #[.int .i64 gr, .int .i64 la, .slice va nc vcap, .int .i64 m0, .int .i64 m1, .int .i64 so, .int .i64 h0, .int .i64 h1] 26) (kn : Blk w bn #[.int .i64 need] 3) (i1 : 0 ≤ b0) (i2 : b0 ≤ 1000000000) (i3 : 0 ≤ b1) (i4 : b1 ≤ 1000000000) (a1 : 0 ≤ w0) (a2 : w0 ≤ 1000000000) (a3 : 0 ≤ w1) (a4 : w1 ≤ 1000000000) (k1 : 0 ≤ h0) (k2 : h0 ≤ 1000000) (k3 : 0 ≤ h1) (k4 : h1 ≤ 1000000) (hs : ¬ soundI q0 q1 = 2) :
    Calls Tryz.prog 51 #[.agg #[.int .i64 b0, .int .i64 b1, .int .i64 w0, .int .i64 w1, .int .i64 q0, .int .i64 q1, .int .i64 s0, .int .i64 s1], .pointer (some ⟨bl, 0, none⟩), .pointer (some ⟨bn, 0, none⟩)] w fun e w' => e = .returned (.bool (decide (need ≤ bearH b1 w1 h1))) ∧ Below w.heap.size w w' := by
  have hB : ∀ W, Calls Tryz.prog 45 #[.agg #[.int .i64 gr, .int .i64 la, (.slice va nc vcap), .int .i64 m0, .int .i64 m1, .int .i64 so, .int .i64 h0, .int .i64 h1], .agg #[.int .i64 b0, .int .i64 b1, .int .i64 w0, .int .i64 w1, .int .i64 q0, .int .i64 q1, .int .i64 s0, .int .i64 s1]] W fun e w' => e = .returned (.agg #[.int .i64 (bearL b0 w0 h0), .int .i64 (bearH b1 w1 h1)]) ∧ Below W.heap.size W w' := fun W => bears_any _ _ _ _ _ _ _ _ _ _ _ _ _ _ _ _ _ _ W i1 i2 i3 i4 a1 a2 a3 a4 k1 k2 k3 k4
  have hq : (soundI q0 q1 != 2) = true := by simp [hs]
  have HB := Lib.hid hB
  have hQ : ∀ W, Calls Tryz.prog 46 #[.agg #[.int .i64 b0, .int .i64 b1, .int .i64 w0, .int .i64 w1, .int .i64 q0, .int .i64 q1, .int .i64 s0, .int .i64 s1]] W fun e w' => e = .returned (.int .i64 (soundI q0 q1)) ∧ Below W.heap.size W w' := fun W => sound_any _ _ _ _ _ _ _ _ W
  have HQ := Lib.hid hQ
  clear hQ hB
  generalize soundI q0 q1 = S at hq HQ
  go_enter Tryz.func51, Tryz.ntmps51
  go_wp2_with fail
  refine wp_region_held_drew (S := (fun w' => Blk w' bl #[.int .i64 gr, .int .i64 la, .slice va nc vcap, .int .i64 m0, .int .i64 m1, .int .i64 so, .int .i64 h0, .int .i64 h1] 26 ∧ Blk w' bn #[.int .i64 need] 3 ∧ Blk w' w.heap.size #[.int .i64 b0, .int .i64 b1, .int .i64 w0, .int .i64 w1, .int .i64 q0, .int .i64 q1, .int .i64 s0, .int .i64 s1] 28 ∧ Below w.heap.size w w')) (by kernel_rfl) ?_ (fun hH => ?_)
  · (try dsimp only); (exact ⟨kl.alloc _, kn.alloc _, Blk.new _ _ _, by (repeat (first | exact Below.refl _ _ | assumption | refine Below.drew ?_ | refine Below.drewN ?_ _ | refine blT ?_ | refine blU ?_))⟩)
  refine tkY 0 (some 5) ?_ ?_ ?_
  rotate_left
  · intro w hS0; (try dsimp only at hS0); obtain ⟨kl, kn, ki, _⟩ := hS0; obtain ⟨l0, l1, l2, l3, l4, l5, l6, l7⟩ := kl.c8; obtain ⟨i0, i1, i2, i3, i4, i5, i6, i7⟩ := ki.c8; have n0 := kn.cell1;go_simp; (try with_reducible rfl)
  (try simp only [cq])
  refine wpAnyH_ready (rs := [1]) (by kernel_rfl) (by simp) ?_
  refine arc1 (some 6) fun K hK => ?_
  go_simp
  (refine (HQ.out _).mono ?_; rintro e w' ⟨rfl, hb⟩)
  refine hK.out _ _ ?_ (fun hH => ?_)
  · (exact ⟨hH.1.call hb, hH.2.1.call hb, hH.2.2.1.call hb, bwS hH.2.2.2 (Nat.le_refl _) hb⟩)
  clear hK K
  (try simp only [cq])
  refine tkY 2 (some 7) ?_ ?_ ?_
  rotate_left
  · intro w _; go_simp; (try with_reducible rfl)
  (try simp only [cq])
  refine tkY 3 (some 8) ?_ ?_ ?_
  rotate_left
  · intro w _; go_simp; (try with_reducible rfl)
  (try simp only [cq])
  refine tkY 4 (some 9) ?_ ?_ ?_
  rotate_left
  · intro w hS0; (try dsimp only at hS0); obtain ⟨kl, kn, ki, _⟩ := hS0; obtain ⟨l0, l1, l2, l3, l4, l5, l6, l7⟩ := kl.c8; obtain ⟨i0, i1, i2, i3, i4, i5, i6, i7⟩ := ki.c8; have n0 := kn.cell1;go_simp; (try with_reducible rfl)
  (try simp only [cq])
  refine tkY 5 (some 10) ?_ ?_ ?_
  rotate_left
  · intro w hS0; (try dsimp only at hS0); obtain ⟨kl, kn, ki, _⟩ := hS0; obtain ⟨l0, l1, l2, l3, l4, l5, l6, l7⟩ := kl.c8; obtain ⟨i0, i1, i2, i3, i4, i5, i6, i7⟩ := ki.c8; have n0 := kn.cell1;go_simp; (try with_reducible rfl)
  (try simp only [cq])
  refine tkY 8 (some 13) ?_ ?_ ?_
  rotate_left
  · intro w hS0; (try dsimp only at hS0); obtain ⟨kl, kn, ki, _⟩ := hS0; obtain ⟨l0, l1, l2, l3, l4, l5, l6, l7⟩ := kl.c8; obtain ⟨i0, i1, i2, i3, i4, i5, i6, i7⟩ := ki.c8; have n0 := kn.cell1;go_simp; (try with_reducible rfl)
  (try simp only [cq])
  refine wpAnyH_ready (rs := [6]) (by kernel_rfl) (by simp) ?_
  refine arc1 (some 11) fun K hK => ?_
  go_simp
  (refine (HB.out _).mono ?_; rintro e w' ⟨rfl, hb⟩)
  refine hK.out _ _ ?_ (fun hH => ?_)
  · (exact ⟨hH.1.call hb, hH.2.1.call hb, hH.2.2.1.call hb, bwS hH.2.2.2 (Nat.le_refl _) hb⟩)
  clear hK K
  (try simp only [cq])
  refine tkY 7 (some 12) ?_ ?_ ?_
  rotate_left
  · intro w _; go_simp; (try with_reducible rfl)
  (try simp only [cq])
  refine tkY 9 (some 14) ?_ ?_ ?_
  rotate_left
  · intro w _; go_simp; (try with_reducible rfl)
  (try simp only [cq])
  refine tkY 10 (some 15) ?_ ?_ ?_
  rotate_left
  · intro w _; go_simp; (try with_reducible rfl)
  (try simp only [cq])
  refine tkY 11 (some 4) ?_ ?_ ?_
  rotate_left
  · intro w _; go_simp; (try with_reducible rfl)
  (try simp only [cq])
  refine wpAnyH_done (by kernel_rfl) ?_ _
  (try dsimp only [Act.put])
  (try simp only [cq])
  have hBB : Below w.heap.size w _ := hH.2.2.2
  clear hH
  go_wp2
  go_ret
  exact ⟨rfl, hBB⟩

set_option maxRecDepth 100000 in
set_option maxHeartbeats 2000000 in
theorem rdy2_no (gr la : Int) (va : Option Addr) (nc vcap : Nat) (m0 m1 so h0 h1 : Int) (b0 b1 w0 w1 q0 q1 s0 s1 need : Int) (bl bn : Nat) (w : World) (kl : Blk w bl #[.int .i64 gr, .int .i64 la, .slice va nc vcap, .int .i64 m0, .int .i64 m1, .int .i64 so, .int .i64 h0, .int .i64 h1] 26) (kn : Blk w bn #[.int .i64 need] 3) (i1 : 0 ≤ b0) (i2 : b0 ≤ 1000000000) (i3 : 0 ≤ b1) (i4 : b1 ≤ 1000000000) (a1 : 0 ≤ w0) (a2 : w0 ≤ 1000000000) (a3 : 0 ≤ w1) (a4 : w1 ≤ 1000000000) (k1 : 0 ≤ h0) (k2 : h0 ≤ 1000000) (k3 : 0 ≤ h1) (k4 : h1 ≤ 1000000) (hs : soundI q0 q1 = 2) :
    Calls Tryz.prog 51 #[.agg #[.int .i64 b0, .int .i64 b1, .int .i64 w0, .int .i64 w1, .int .i64 q0, .int .i64 q1, .int .i64 s0, .int .i64 s1], .pointer (some ⟨bl, 0, none⟩), .pointer (some ⟨bn, 0, none⟩)] w fun e w' => e = .returned (.bool (false)) ∧ Below w.heap.size w w' := by
  have hB : ∀ W, Calls Tryz.prog 45 #[.agg #[.int .i64 gr, .int .i64 la, (.slice va nc vcap), .int .i64 m0, .int .i64 m1, .int .i64 so, .int .i64 h0, .int .i64 h1], .agg #[.int .i64 b0, .int .i64 b1, .int .i64 w0, .int .i64 w1, .int .i64 q0, .int .i64 q1, .int .i64 s0, .int .i64 s1]] W fun e w' => e = .returned (.agg #[.int .i64 (bearL b0 w0 h0), .int .i64 (bearH b1 w1 h1)]) ∧ Below W.heap.size W w' := fun W => bears_any _ _ _ _ _ _ _ _ _ _ _ _ _ _ _ _ _ _ W i1 i2 i3 i4 a1 a2 a3 a4 k1 k2 k3 k4
  have hq : (soundI q0 q1 != 2) = false := by simp [hs]
  have HB := Lib.hid hB
  have hQ : ∀ W, Calls Tryz.prog 46 #[.agg #[.int .i64 b0, .int .i64 b1, .int .i64 w0, .int .i64 w1, .int .i64 q0, .int .i64 q1, .int .i64 s0, .int .i64 s1]] W fun e w' => e = .returned (.int .i64 (soundI q0 q1)) ∧ Below W.heap.size W w' := fun W => sound_any _ _ _ _ _ _ _ _ W
  have HQ := Lib.hid hQ
  clear hQ hB
  generalize soundI q0 q1 = S at hq HQ
  go_enter Tryz.func51, Tryz.ntmps51
  go_wp2_with fail
  refine wp_region_held_drew (S := (fun w' => Blk w' bl #[.int .i64 gr, .int .i64 la, .slice va nc vcap, .int .i64 m0, .int .i64 m1, .int .i64 so, .int .i64 h0, .int .i64 h1] 26 ∧ Blk w' bn #[.int .i64 need] 3 ∧ Blk w' w.heap.size #[.int .i64 b0, .int .i64 b1, .int .i64 w0, .int .i64 w1, .int .i64 q0, .int .i64 q1, .int .i64 s0, .int .i64 s1] 28 ∧ Below w.heap.size w w')) (by kernel_rfl) ?_ (fun hH => ?_)
  · (try dsimp only); (exact ⟨kl.alloc _, kn.alloc _, Blk.new _ _ _, by (repeat (first | exact Below.refl _ _ | assumption | refine Below.drew ?_ | refine Below.drewN ?_ _ | refine blT ?_ | refine blU ?_))⟩)
  refine tkY 0 (some 5) ?_ ?_ ?_
  rotate_left
  · intro w hS0; (try dsimp only at hS0); obtain ⟨kl, kn, ki, _⟩ := hS0; obtain ⟨l0, l1, l2, l3, l4, l5, l6, l7⟩ := kl.c8; obtain ⟨i0, i1, i2, i3, i4, i5, i6, i7⟩ := ki.c8; have n0 := kn.cell1;go_simp; (try with_reducible rfl)
  (try simp only [cq])
  refine wpAnyH_ready (rs := [1]) (by kernel_rfl) (by simp) ?_
  refine arc1 (some 6) fun K hK => ?_
  go_simp
  (refine (HQ.out _).mono ?_; rintro e w' ⟨rfl, hb⟩)
  refine hK.out _ _ ?_ (fun hH => ?_)
  · (exact ⟨hH.1.call hb, hH.2.1.call hb, hH.2.2.1.call hb, bwS hH.2.2.2 (Nat.le_refl _) hb⟩)
  clear hK K
  (try simp only [cq])
  refine tkY 2 (some 7) ?_ ?_ ?_
  rotate_left
  · intro w _; go_simp; (try with_reducible rfl)
  (try simp only [cq])
  refine tkY 3 (some 8) ?_ ?_ ?_
  rotate_left
  · intro w _; go_simp; (try with_reducible rfl)
  (try simp only [cq])
  refine tkN 4 (some 9) ?_
  (try simp only [cq])
  refine tkN 5 (some 10) ?_
  (try simp only [cq])
  refine tkN 6 (some 11) ?_
  (try simp only [cq])
  refine tkN 7 (some 12) ?_
  (try simp only [cq])
  refine tkN 8 (some 13) ?_
  (try simp only [cq])
  refine tkN 9 (some 14) ?_
  (try simp only [cq])
  refine tkY 10 (some 15) ?_ ?_ ?_
  rotate_left
  · intro w _; go_simp; (try with_reducible rfl)
  (try simp only [cq])
  refine tkY 11 (some 4) ?_ ?_ ?_
  rotate_left
  · intro w _; go_simp; (try with_reducible rfl)
  (try simp only [cq])
  refine wpAnyH_done (by kernel_rfl) ?_ _
  (try dsimp only [Act.put])
  (try simp only [cq])
  have hBB : Below w.heap.size w _ := hH.2.2.2
  clear hH
  go_wp2
  go_ret
  exact ⟨rfl, hBB⟩
end Go.Proofs.YtdbiijldincoiaaGreat

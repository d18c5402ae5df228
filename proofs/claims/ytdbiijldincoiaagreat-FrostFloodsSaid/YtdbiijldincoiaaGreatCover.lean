/-
  Snow that is cleared and falls, and water that is pumped: contracts of frost.cover and its closures.
-/
import Derived.Test.YtdbiijldincoiaaGreatTail
import Derived.Test.YtdbiijldincoiaaGreatFrz2
import Derived.Test.YtdbiijldincoiaaGreatBase
set_option linter.unusedVariables false
set_option linter.unusedSimpArgs false
namespace Go.Proofs.YtdbiijldincoiaaGreat
open Go.RowKit

def soakP (s so : Int) : Int := s * so / 1000000
theorem soak_facts (s so : Int) (s1 : 0 ≤ s) (s2 : s ≤ 1000001000) (o1 : 0 ≤ so) (o2 : so ≤ 1000000) : 0 ≤ s * so ∧ s * so ≤ 1000001000000000 ∧ 0 ≤ soakP s so ∧ soakP s so ≤ 1000001000 := by
  have a : 0 ≤ s * so := Int.mul_nonneg s1 o1
  have b : s * so ≤ 1000001000 * 1000000 := Int.mul_le_mul s2 o2 o1 (by omega)
  unfold soakP
  omega

set_option maxRecDepth 100000 in
set_option maxHeartbeats 1000000 in
theorem cov1_lo (b0 b1 w0 w1 q0 q1 s0 s1 e0 e1 f0 f1 wa : Int) (cl : Bool) (bb bd : Nat) (w : World) (kb : Blk w bb #[.int .i64 b0, .int .i64 b1, .int .i64 w0, .int .i64 w1, .int .i64 q0, .int .i64 q1, .int .i64 s0, .int .i64 s1] 105) (kd : Blk w bd #[.int .i64 e0, .int .i64 e1, .int .i64 f0, .int .i64 f1, .int .i64 wa, .bool cl] 58)
    (y1 : 0 ≤ s0) (y2 : s0 ≤ 1000000000) (y3 : 0 ≤ f0) (y4 : f0 ≤ 1000) :
    Calls Tryz.prog 95 #[.func (.func 110) #[] #[], .func (.func 111) #[] #[], .pointer (some ⟨bb, 0, none⟩), .pointer (some ⟨bd, 0, none⟩)] w fun e w' => e = .returned (.int .i64 (s0 + f0)) ∧ Below w.heap.size w w' := by
  obtain ⟨c0, c1, c2, c3, c4, c5, c6, c7⟩ := kb.c8
  obtain ⟨d0, d1, d2, d3, d4, d5⟩ := kd.c6
  clear c0 c1 c2 c3 c4 c5 d0 d1 d4 d5
  go_enter Tryz.func95, Tryz.ntmps95
  go_wp2_with fail
  refine wp_region_held_drew (S := (fun w' => w'.cell? ⟨bb, 6, none⟩ = some (.int .i64 s0) ∧ w'.cell? ⟨bb, 7, none⟩ = some (.int .i64 s1) ∧ w'.cell? ⟨bd, 2, none⟩ = some (.int .i64 f0) ∧ w'.cell? ⟨bd, 3, none⟩ = some (.int .i64 f1) ∧ Below w.heap.size w w')) (by kernel_rfl) ?_ (fun hH => ?_)
  · (try dsimp only); (go_split_ands; refine ⟨?_, ?_, ?_, ?_, ?_⟩ <;> (first | assumption | (go_simp; done) | (go_keep; done) | (refine cell_later hb ?_; first | assumption | (go_keep; done)) | (refine bwS ?_ ?_ hb; (first | assumption | ((repeat (first | exact Below.refl _ _ | assumption | refine Below.drew ?_ | refine Below.drewN ?_ _ | refine blT ?_ | refine blU ?_)); done)); (first | exact Nat.le_refl _ | (simp; done) | (simp; omega))) | ((repeat (first | exact Below.refl _ _ | assumption | refine Below.drew ?_ | refine Below.drewN ?_ _ | refine blT ?_ | refine blU ?_)); done)))
  refine tkY 0 (some 7) ?_ ?_ ?_
  rotate_left
  · intro w _; go_simp; (try with_reducible rfl)
  (try simp only [cq])
  refine tkY 1 (some 8) ?_ ?_ ?_
  rotate_left
  · intro w hS0; go_simp; (try with_reducible rfl)
  (try simp only [cq])
  refine tkY 2 (some 9) ?_ ?_ ?_
  rotate_left
  · intro w hS0; go_simp; (try with_reducible rfl)
  (try simp only [cq])
  refine tkY 4 (some 11) ?_ ?_ ?_
  rotate_left
  · intro w _; go_simp; (try with_reducible rfl)
  (try simp only [cq])
  refine tkY 5 (some 12) ?_ ?_ ?_
  rotate_left
  · intro w hS0; go_simp; (try with_reducible rfl)
  (try simp only [cq])
  refine tkY 6 (some 13) ?_ ?_ ?_
  rotate_left
  · intro w hS0; go_simp; (try with_reducible rfl)
  (try simp only [cq])
  refine wpAnyH_ready (rs := [3]) (by kernel_rfl) (by simp) ?_
  refine arc1 (some 10) fun K hK => ?_
  go_simp
  (refine (low_any _ _ _).mono ?_; rintro e w' ⟨rfl, hb⟩)
  refine hK.out _ _ ?_ (fun hH => ?_)
  · (go_split_ands; refine ⟨?_, ?_, ?_, ?_, ?_⟩ <;> (first | assumption | (go_simp; done) | (go_keep; done) | (refine cell_later hb ?_; first | assumption | (go_keep; done)) | (refine bwS ?_ ?_ hb; (first | assumption | ((repeat (first | exact Below.refl _ _ | assumption | refine Below.drew ?_ | refine Below.drewN ?_ _ | refine blT ?_ | refine blU ?_)); done)); (first | exact Nat.le_refl _ | (simp; done) | (simp; omega))) | ((repeat (first | exact Below.refl _ _ | assumption | refine Below.drew ?_ | refine Below.drewN ?_ _ | refine blT ?_ | refine blU ?_)); done)))
  clear hK K
  (try simp only [cq])
  refine wpAnyH_ready (rs := [7]) (by kernel_rfl) (by simp) ?_
  refine arc1 (some 14) fun K hK => ?_
  go_simp
  (refine (low_any _ _ _).mono ?_; rintro e w' ⟨rfl, hb⟩)
  refine hK.out _ _ ?_ (fun hH => ?_)
  · (go_split_ands; refine ⟨?_, ?_, ?_, ?_, ?_⟩ <;> (first | assumption | (go_simp; done) | (go_keep; done) | (refine cell_later hb ?_; first | assumption | (go_keep; done)) | (refine bwS ?_ ?_ hb; (first | assumption | ((repeat (first | exact Below.refl _ _ | assumption | refine Below.drew ?_ | refine Below.drewN ?_ _ | refine blT ?_ | refine blU ?_)); done)); (first | exact Nat.le_refl _ | (simp; done) | (simp; omega))) | ((repeat (first | exact Below.refl _ _ | assumption | refine Below.drew ?_ | refine Below.drewN ?_ _ | refine blT ?_ | refine blU ?_)); done)))
  clear hK K
  (try simp only [cq])
  refine tkY 8 (some 15) ?_ ?_ ?_
  rotate_left
  · intro w _; go_simp; (try with_reducible rfl)
  (try simp only [cq])
  refine tkY 9 (some 6) ?_ ?_ ?_
  rotate_left
  · intro w _; go_simp; (try with_reducible rfl)
  (try simp only [cq])
  refine wpAnyH_done (by kernel_rfl) ?_ _
  (try dsimp only [Act.put])
  (try simp only [cq])
  have hBB : Below w.heap.size w _ := hH.2.2.2.2
  clear hH
  go_wp2
  go_ret
  exact ⟨ret_int (IntWalk.i64_in _ (by omega)), hBB⟩

set_option maxRecDepth 100000 in
set_option maxHeartbeats 1000000 in
theorem cov2_lo (gr la : Int) (va : Option Addr) (n cap : Nat) (m0 m1 so h0 h1 : Int) (b0 b1 w0 w1 q0 q1 s0 s1 e0 e1 f0 f1 wa : Int) (cl : Bool) (bb bd bl : Nat) (w : World) (kb : Blk w bb #[.int .i64 b0, .int .i64 b1, .int .i64 w0, .int .i64 w1, .int .i64 q0, .int .i64 q1, .int .i64 s0, .int .i64 s1] 105) (kd : Blk w bd #[.int .i64 e0, .int .i64 e1, .int .i64 f0, .int .i64 f1, .int .i64 wa, .bool cl] 58) (kl : Blk w bl #[.int .i64 gr, .int .i64 la, .slice va n cap, .int .i64 m0, .int .i64 m1, .int .i64 so, .int .i64 h0, .int .i64 h1] 26)
    (y1 : 0 ≤ s0) (y2 : s0 ≤ 1000001000) (y3 : 0 ≤ q0) (y4 : q0 ≤ 1000000000) (y5 : 0 ≤ wa) (y6 : wa ≤ 200) (o1 : 0 ≤ so) (o2 : so ≤ 1000000) :
    Calls Tryz.prog 96 #[.func (.func 110) #[] #[], .func (.func 111) #[] #[], .pointer (some ⟨bb, 0, none⟩), .pointer (some ⟨bd, 0, none⟩), .pointer (some ⟨bl, 0, none⟩)] w fun e w' => e = .returned (.int .i64 (q0 + wa + soakP s0 so)) ∧ Below w.heap.size w w' := by
  obtain ⟨z1, z2, z3, z4⟩ := soak_facts s0 so y1 y2 o1 o2
  have HS : Hid (soakP s0 so = s0 * so / 1000000) := rfl
  generalize soakP s0 so = K at z3 z4 HS ⊢
  obtain ⟨c0, c1, c2, c3, c4, c5, c6, c7⟩ := kb.c8
  obtain ⟨d0, d1, d2, d3, d4, d5⟩ := kd.c6
  obtain ⟨l0, l1, l2, l3, l4, l5, l6, l7⟩ := kl.c8
  clear c0 c1 c2 c3 d0 d1 d2 d3 d5 l0 l1 l2 l3 l4 l6 l7
  go_enter Tryz.func96, Tryz.ntmps96
  go_wp2_with fail
  refine wp_region_held_drew (S := (fun w' => w'.cell? ⟨bb, 4, none⟩ = some (.int .i64 q0) ∧ w'.cell? ⟨bb, 5, none⟩ = some (.int .i64 q1) ∧ w'.cell? ⟨bb, 6, none⟩ = some (.int .i64 s0) ∧ w'.cell? ⟨bb, 7, none⟩ = some (.int .i64 s1) ∧ w'.cell? ⟨bd, 4, none⟩ = some (.int .i64 wa) ∧ w'.cell? ⟨bl, 5, none⟩ = some (.int .i64 so) ∧ Below w.heap.size w w')) (by kernel_rfl) ?_ (fun hH => ?_)
  · (try dsimp only); (go_split_ands; refine ⟨?_, ?_, ?_, ?_, ?_, ?_, ?_⟩ <;> (first | assumption | (go_simp; done) | (go_keep; done) | (refine cell_later hb ?_; first | assumption | (go_keep; done)) | (refine bwS ?_ ?_ hb; (first | assumption | ((repeat (first | exact Below.refl _ _ | assumption | refine Below.drew ?_ | refine Below.drewN ?_ _ | refine blT ?_ | refine blU ?_)); done)); (first | exact Nat.le_refl _ | (simp; done) | (simp; omega))) | ((repeat (first | exact Below.refl _ _ | assumption | refine Below.drew ?_ | refine Below.drewN ?_ _ | refine blT ?_ | refine blU ?_)); done)))
  refine tkY 0 (some 8) ?_ ?_ ?_
  rotate_left
  · intro w _; go_simp; (try with_reducible rfl)
  (try simp only [cq])
  refine tkY 1 (some 9) ?_ ?_ ?_
  rotate_left
  · intro w hS0; go_simp; (try with_reducible rfl)
  (try simp only [cq])
  refine tkY 2 (some 10) ?_ ?_ ?_
  rotate_left
  · intro w hS0; go_simp; (try with_reducible rfl)
  (try simp only [cq])
  refine tkY 4 (some 12) ?_ ?_ ?_
  rotate_left
  · intro w hS0; go_simp; (try with_reducible rfl)
  (try simp only [cq])
  refine tkY 5 (some 13) ?_ ?_ ?_
  rotate_left
  · intro w hS0; go_simp; (try with_reducible rfl)
  (try simp only [cq])
  refine tkY 7 (some 15) ?_ ?_ ?_
  rotate_left
  · intro w _; go_simp; (try with_reducible rfl)
  (try simp only [cq])
  refine tkY 8 (some 16) ?_ ?_ ?_
  rotate_left
  · intro w hS0; go_simp; (try with_reducible rfl)
  (try simp only [cq])
  refine tkY 9 (some 17) ?_ ?_ ?_
  rotate_left
  · intro w hS0; go_simp; (try with_reducible rfl)
  (try simp only [cq])
  refine tkY 11 (some 19) ?_ ?_ ?_
  rotate_left
  · intro w hS0; go_simp; (try with_reducible rfl)
  (try simp only [cq])
  refine tkY 12 (some 20) ?_ ?_ ?_
  rotate_left
  · intro w hS0; go_simp; (try with_reducible rfl)
  (try simp only [cq])
  refine wpAnyH_ready (rs := [3]) (by kernel_rfl) (by simp) ?_
  refine arc1 (some 11) fun K hK => ?_
  go_simp
  (refine (low_any _ _ _).mono ?_; rintro e w' ⟨rfl, hb⟩)
  refine hK.out _ _ ?_ (fun hH => ?_)
  · (go_split_ands; refine ⟨?_, ?_, ?_, ?_, ?_, ?_, ?_⟩ <;> (first | assumption | (go_simp; done) | (go_keep; done) | (refine cell_later hb ?_; first | assumption | (go_keep; done)) | (refine bwS ?_ ?_ hb; (first | assumption | ((repeat (first | exact Below.refl _ _ | assumption | refine Below.drew ?_ | refine Below.drewN ?_ _ | refine blT ?_ | refine blU ?_)); done)); (first | exact Nat.le_refl _ | (simp; done) | (simp; omega))) | ((repeat (first | exact Below.refl _ _ | assumption | refine Below.drew ?_ | refine Below.drewN ?_ _ | refine blT ?_ | refine blU ?_)); done)))
  clear hK K
  (try simp only [cq])
  refine tkY 6 (some 14) ?_ ?_ ?_
  rotate_left
  · intro w _; go_simp; (try with_reducible rfl)
  (try simp only [cq])
  refine wpAnyH_ready (rs := [10]) (by kernel_rfl) (by simp) ?_
  refine arc1 (some 18) fun K hK => ?_
  go_simp
  (refine (low_any _ _ _).mono ?_; rintro e w' ⟨rfl, hb⟩)
  refine hK.out _ _ ?_ (fun hH => ?_)
  · (go_split_ands; refine ⟨?_, ?_, ?_, ?_, ?_, ?_, ?_⟩ <;> (first | assumption | (go_simp; done) | (go_keep; done) | (refine cell_later hb ?_; first | assumption | (go_keep; done)) | (refine bwS ?_ ?_ hb; (first | assumption | ((repeat (first | exact Below.refl _ _ | assumption | refine Below.drew ?_ | refine Below.drewN ?_ _ | refine blT ?_ | refine blU ?_)); done)); (first | exact Nat.le_refl _ | (simp; done) | (simp; omega))) | ((repeat (first | exact Below.refl _ _ | assumption | refine Below.drew ?_ | refine Below.drewN ?_ _ | refine blT ?_ | refine blU ?_)); done)))
  clear hK K
  (try simp only [cq])
  refine tkY 13 (some 21) ?_ ?_ ?_
  rotate_left
  · intro w _; go_simp; (try with_reducible rfl)
  (try simp only [cq])
  refine tkY 14 (some 22) ?_ ?_ ?_
  rotate_left
  · intro w _; go_simp; (try with_reducible rfl)
  (try simp only [cq])
  refine tkY 15 (some 23) ?_ ?_ ?_
  rotate_left
  · intro w _; go_simp; (try with_reducible rfl)
  (try simp only [cq])
  refine tkY 16 (some 7) ?_ ?_ ?_
  rotate_left
  · intro w _; go_simp; (try with_reducible rfl)
  (try simp only [cq])
  refine wpAnyH_done (by kernel_rfl) ?_ _
  (try dsimp only [Act.put])
  (try simp only [cq])
  have hBB : Below w.heap.size w _ := hH.2.2.2.2.2.2
  clear hH
  go_wp2
  go_ret
  have e1 : IntKind.i64.wrap (q0 + wa) = q0 + wa := IntWalk.i64_in _ (by omega)
  have e2 : IntKind.i64.wrap (s0 * so) = s0 * so := IntWalk.i64_in _ (by omega)
  have e3 : (s0 * so).tdiv 1000000 = K := by rw [HS.out]; exact Int.tdiv_eq_ediv_of_nonneg z1
  have e4 : IntKind.i64.wrap K = K := IntWalk.i64_in _ (by omega)
  have e5 : IntKind.i64.wrap (q0 + wa + K) = q0 + wa + K := IntWalk.i64_in _ (by omega)
  refine ⟨ret_int ?_, hBB⟩
  simp only [e1, e2, e3, e4, e5]

set_option maxRecDepth 100000 in
set_option maxHeartbeats 1000000 in
theorem cov1_hi (b0 b1 w0 w1 q0 q1 s0 s1 e0 e1 f0 f1 wa : Int) (cl : Bool) (bb bd : Nat) (w : World) (kb : Blk w bb #[.int .i64 b0, .int .i64 b1, .int .i64 w0, .int .i64 w1, .int .i64 q0, .int .i64 q1, .int .i64 s0, .int .i64 s1] 105) (kd : Blk w bd #[.int .i64 e0, .int .i64 e1, .int .i64 f0, .int .i64 f1, .int .i64 wa, .bool cl] 58)
    (y1 : 0 ≤ s1) (y2 : s1 ≤ 1000000000) (y3 : 0 ≤ f1) (y4 : f1 ≤ 1000) :
    Calls Tryz.prog 95 #[.func (.func 111) #[] #[], .func (.func 110) #[] #[], .pointer (some ⟨bb, 0, none⟩), .pointer (some ⟨bd, 0, none⟩)] w fun e w' => e = .returned (.int .i64 (s1 + f1)) ∧ Below w.heap.size w w' := by
  obtain ⟨c0, c1, c2, c3, c4, c5, c6, c7⟩ := kb.c8
  obtain ⟨d0, d1, d2, d3, d4, d5⟩ := kd.c6
  clear c0 c1 c2 c3 c4 c5 d0 d1 d4 d5
  go_enter Tryz.func95, Tryz.ntmps95
  go_wp2_with fail
  refine wp_region_held_drew (S := (fun w' => w'.cell? ⟨bb, 6, none⟩ = some (.int .i64 s0) ∧ w'.cell? ⟨bb, 7, none⟩ = some (.int .i64 s1) ∧ w'.cell? ⟨bd, 2, none⟩ = some (.int .i64 f0) ∧ w'.cell? ⟨bd, 3, none⟩ = some (.int .i64 f1) ∧ Below w.heap.size w w')) (by kernel_rfl) ?_ (fun hH => ?_)
  · (try dsimp only); (go_split_ands; refine ⟨?_, ?_, ?_, ?_, ?_⟩ <;> (first | assumption | (go_simp; done) | (go_keep; done) | (refine cell_later hb ?_; first | assumption | (go_keep; done)) | (refine bwS ?_ ?_ hb; (first | assumption | ((repeat (first | exact Below.refl _ _ | assumption | refine Below.drew ?_ | refine Below.drewN ?_ _ | refine blT ?_ | refine blU ?_)); done)); (first | exact Nat.le_refl _ | (simp; done) | (simp; omega))) | ((repeat (first | exact Below.refl _ _ | assumption | refine Below.drew ?_ | refine Below.drewN ?_ _ | refine blT ?_ | refine blU ?_)); done)))
  refine tkY 0 (some 7) ?_ ?_ ?_
  rotate_left
  · intro w _; go_simp; (try with_reducible rfl)
  (try simp only [cq])
  refine tkY 1 (some 8) ?_ ?_ ?_
  rotate_left
  · intro w hS0; go_simp; (try with_reducible rfl)
  (try simp only [cq])
  refine tkY 2 (some 9) ?_ ?_ ?_
  rotate_left
  · intro w hS0; go_simp; (try with_reducible rfl)
  (try simp only [cq])
  refine tkY 4 (some 11) ?_ ?_ ?_
  rotate_left
  · intro w _; go_simp; (try with_reducible rfl)
  (try simp only [cq])
  refine tkY 5 (some 12) ?_ ?_ ?_
  rotate_left
  · intro w hS0; go_simp; (try with_reducible rfl)
  (try simp only [cq])
  refine tkY 6 (some 13) ?_ ?_ ?_
  rotate_left
  · intro w hS0; go_simp; (try with_reducible rfl)
  (try simp only [cq])
  refine wpAnyH_ready (rs := [3]) (by kernel_rfl) (by simp) ?_
  refine arc1 (some 10) fun K hK => ?_
  go_simp
  (refine (high_any _ _ _).mono ?_; rintro e w' ⟨rfl, hb⟩)
  refine hK.out _ _ ?_ (fun hH => ?_)
  · (go_split_ands; refine ⟨?_, ?_, ?_, ?_, ?_⟩ <;> (first | assumption | (go_simp; done) | (go_keep; done) | (refine cell_later hb ?_; first | assumption | (go_keep; done)) | (refine bwS ?_ ?_ hb; (first | assumption | ((repeat (first | exact Below.refl _ _ | assumption | refine Below.drew ?_ | refine Below.drewN ?_ _ | refine blT ?_ | refine blU ?_)); done)); (first | exact Nat.le_refl _ | (simp; done) | (simp; omega))) | ((repeat (first | exact Below.refl _ _ | assumption | refine Below.drew ?_ | refine Below.drewN ?_ _ | refine blT ?_ | refine blU ?_)); done)))
  clear hK K
  (try simp only [cq])
  refine wpAnyH_ready (rs := [7]) (by kernel_rfl) (by simp) ?_
  refine arc1 (some 14) fun K hK => ?_
  go_simp
  (refine (high_any _ _ _).mono ?_; rintro e w' ⟨rfl, hb⟩)
  refine hK.out _ _ ?_ (fun hH => ?_)
  · (go_split_ands; refine ⟨?_, ?_, ?_, ?_, ?_⟩ <;> (first | assumption | (go_simp; done) | (go_keep; done) | (refine cell_later hb ?_; first | assumption | (go_keep; done)) | (refine bwS ?_ ?_ hb; (first | assumption | ((repeat (first | exact Below.refl _ _ | assumption | refine Below.drew ?_ | refine Below.drewN ?_ _ | refine blT ?_ | refine blU ?_)); done)); (first | exact Nat.le_refl _ | (simp; done) | (simp; omega))) | ((repeat (first | exact Below.refl _ _ | assumption | refine Below.drew ?_ | refine Below.drewN ?_ _ | refine blT ?_ | refine blU ?_)); done)))
  clear hK K
  (try simp only [cq])
  refine tkY 8 (some 15) ?_ ?_ ?_
  rotate_left
  · intro w _; go_simp; (try with_reducible rfl)
  (try simp only [cq])
  refine tkY 9 (some 6) ?_ ?_ ?_
  rotate_left
  · intro w _; go_simp; (try with_reducible rfl)
  (try simp only [cq])
  refine wpAnyH_done (by kernel_rfl) ?_ _
  (try dsimp only [Act.put])
  (try simp only [cq])
  have hBB : Below w.heap.size w _ := hH.2.2.2.2
  clear hH
  go_wp2
  go_ret
  exact ⟨ret_int (IntWalk.i64_in _ (by omega)), hBB⟩

set_option maxRecDepth 100000 in
set_option maxHeartbeats 1000000 in
theorem cov2_hi (gr la : Int) (va : Option Addr) (n cap : Nat) (m0 m1 so h0 h1 : Int) (b0 b1 w0 w1 q0 q1 s0 s1 e0 e1 f0 f1 wa : Int) (cl : Bool) (bb bd bl : Nat) (w : World) (kb : Blk w bb #[.int .i64 b0, .int .i64 b1, .int .i64 w0, .int .i64 w1, .int .i64 q0, .int .i64 q1, .int .i64 s0, .int .i64 s1] 105) (kd : Blk w bd #[.int .i64 e0, .int .i64 e1, .int .i64 f0, .int .i64 f1, .int .i64 wa, .bool cl] 58) (kl : Blk w bl #[.int .i64 gr, .int .i64 la, .slice va n cap, .int .i64 m0, .int .i64 m1, .int .i64 so, .int .i64 h0, .int .i64 h1] 26)
    (y1 : 0 ≤ s1) (y2 : s1 ≤ 1000001000) (y3 : 0 ≤ q1) (y4 : q1 ≤ 1000000000) (y5 : 0 ≤ wa) (y6 : wa ≤ 200) (o1 : 0 ≤ so) (o2 : so ≤ 1000000) :
    Calls Tryz.prog 96 #[.func (.func 111) #[] #[], .func (.func 110) #[] #[], .pointer (some ⟨bb, 0, none⟩), .pointer (some ⟨bd, 0, none⟩), .pointer (some ⟨bl, 0, none⟩)] w fun e w' => e = .returned (.int .i64 (q1 + wa + soakP s1 so)) ∧ Below w.heap.size w w' := by
  obtain ⟨z1, z2, z3, z4⟩ := soak_facts s1 so y1 y2 o1 o2
  have HS : Hid (soakP s1 so = s1 * so / 1000000) := rfl
  generalize soakP s1 so = K at z3 z4 HS ⊢
  obtain ⟨c0, c1, c2, c3, c4, c5, c6, c7⟩ := kb.c8
  obtain ⟨d0, d1, d2, d3, d4, d5⟩ := kd.c6
  obtain ⟨l0, l1, l2, l3, l4, l5, l6, l7⟩ := kl.c8
  clear c0 c1 c2 c3 d0 d1 d2 d3 d5 l0 l1 l2 l3 l4 l6 l7
  go_enter Tryz.func96, Tryz.ntmps96
  go_wp2_with fail
  refine wp_region_held_drew (S := (fun w' => w'.cell? ⟨bb, 4, none⟩ = some (.int .i64 q0) ∧ w'.cell? ⟨bb, 5, none⟩ = some (.int .i64 q1) ∧ w'.cell? ⟨bb, 6, none⟩ = some (.int .i64 s0) ∧ w'.cell? ⟨bb, 7, none⟩ = some (.int .i64 s1) ∧ w'.cell? ⟨bd, 4, none⟩ = some (.int .i64 wa) ∧ w'.cell? ⟨bl, 5, none⟩ = some (.int .i64 so) ∧ Below w.heap.size w w')) (by kernel_rfl) ?_ (fun hH => ?_)
  · (try dsimp only); (go_split_ands; refine ⟨?_, ?_, ?_, ?_, ?_, ?_, ?_⟩ <;> (first | assumption | (go_simp; done) | (go_keep; done) | (refine cell_later hb ?_; first | assumption | (go_keep; done)) | (refine bwS ?_ ?_ hb; (first | assumption | ((repeat (first | exact Below.refl _ _ | assumption | refine Below.drew ?_ | refine Below.drewN ?_ _ | refine blT ?_ | refine blU ?_)); done)); (first | exact Nat.le_refl _ | (simp; done) | (simp; omega))) | ((repeat (first | exact Below.refl _ _ | assumption | refine Below.drew ?_ | refine Below.drewN ?_ _ | refine blT ?_ | refine blU ?_)); done)))
  refine tkY 0 (some 8) ?_ ?_ ?_
  rotate_left
  · intro w _; go_simp; (try with_reducible rfl)
  (try simp only [cq])
  refine tkY 1 (some 9) ?_ ?_ ?_
  rotate_left
  · intro w hS0; go_simp; (try with_reducible rfl)
  (try simp only [cq])
  refine tkY 2 (some 10) ?_ ?_ ?_
  rotate_left
  · intro w hS0; go_simp; (try with_reducible rfl)
  (try simp only [cq])
  refine tkY 4 (some 12) ?_ ?_ ?_
  rotate_left
  · intro w hS0; go_simp; (try with_reducible rfl)
  (try simp only [cq])
  refine tkY 5 (some 13) ?_ ?_ ?_
  rotate_left
  · intro w hS0; go_simp; (try with_reducible rfl)
  (try simp only [cq])
  refine tkY 7 (some 15) ?_ ?_ ?_
  rotate_left
  · intro w _; go_simp; (try with_reducible rfl)
  (try simp only [cq])
  refine tkY 8 (some 16) ?_ ?_ ?_
  rotate_left
  · intro w hS0; go_simp; (try with_reducible rfl)
  (try simp only [cq])
  refine tkY 9 (some 17) ?_ ?_ ?_
  rotate_left
  · intro w hS0; go_simp; (try with_reducible rfl)
  (try simp only [cq])
  refine tkY 11 (some 19) ?_ ?_ ?_
  rotate_left
  · intro w hS0; go_simp; (try with_reducible rfl)
  (try simp only [cq])
  refine tkY 12 (some 20) ?_ ?_ ?_
  rotate_left
  · intro w hS0; go_simp; (try with_reducible rfl)
  (try simp only [cq])
  refine wpAnyH_ready (rs := [3]) (by kernel_rfl) (by simp) ?_
  refine arc1 (some 11) fun K hK => ?_
  go_simp
  (refine (high_any _ _ _).mono ?_; rintro e w' ⟨rfl, hb⟩)
  refine hK.out _ _ ?_ (fun hH => ?_)
  · (go_split_ands; refine ⟨?_, ?_, ?_, ?_, ?_, ?_, ?_⟩ <;> (first | assumption | (go_simp; done) | (go_keep; done) | (refine cell_later hb ?_; first | assumption | (go_keep; done)) | (refine bwS ?_ ?_ hb; (first | assumption | ((repeat (first | exact Below.refl _ _ | assumption | refine Below.drew ?_ | refine Below.drewN ?_ _ | refine blT ?_ | refine blU ?_)); done)); (first | exact Nat.le_refl _ | (simp; done) | (simp; omega))) | ((repeat (first | exact Below.refl _ _ | assumption | refine Below.drew ?_ | refine Below.drewN ?_ _ | refine blT ?_ | refine blU ?_)); done)))
  clear hK K
  (try simp only [cq])
  refine tkY 6 (some 14) ?_ ?_ ?_
  rotate_left
  · intro w _; go_simp; (try with_reducible rfl)
  (try simp only [cq])
  refine wpAnyH_ready (rs := [10]) (by kernel_rfl) (by simp) ?_
  refine arc1 (some 18) fun K hK => ?_
  go_simp
  (refine (high_any _ _ _).mono ?_; rintro e w' ⟨rfl, hb⟩)
  refine hK.out _ _ ?_ (fun hH => ?_)
  · (go_split_ands; refine ⟨?_, ?_, ?_, ?_, ?_, ?_, ?_⟩ <;> (first | assumption | (go_simp; done) | (go_keep; done) | (refine cell_later hb ?_; first | assumption | (go_keep; done)) | (refine bwS ?_ ?_ hb; (first | assumption | ((repeat (first | exact Below.refl _ _ | assumption | refine Below.drew ?_ | refine Below.drewN ?_ _ | refine blT ?_ | refine blU ?_)); done)); (first | exact Nat.le_refl _ | (simp; done) | (simp; omega))) | ((repeat (first | exact Below.refl _ _ | assumption | refine Below.drew ?_ | refine Below.drewN ?_ _ | refine blT ?_ | refine blU ?_)); done)))
  clear hK K
  (try simp only [cq])
  refine tkY 13 (some 21) ?_ ?_ ?_
  rotate_left
  · intro w _; go_simp; (try with_reducible rfl)
  (try simp only [cq])
  refine tkY 14 (some 22) ?_ ?_ ?_
  rotate_left
  · intro w _; go_simp; (try with_reducible rfl)
  (try simp only [cq])
  refine tkY 15 (some 23) ?_ ?_ ?_
  rotate_left
  · intro w _; go_simp; (try with_reducible rfl)
  (try simp only [cq])
  refine tkY 16 (some 7) ?_ ?_ ?_
  rotate_left
  · intro w _; go_simp; (try with_reducible rfl)
  (try simp only [cq])
  refine wpAnyH_done (by kernel_rfl) ?_ _
  (try dsimp only [Act.put])
  (try simp only [cq])
  have hBB : Below w.heap.size w _ := hH.2.2.2.2.2.2
  clear hH
  go_wp2
  go_ret
  have e1 : IntKind.i64.wrap (q1 + wa) = q1 + wa := IntWalk.i64_in _ (by omega)
  have e2 : IntKind.i64.wrap (s1 * so) = s1 * so := IntWalk.i64_in _ (by omega)
  have e3 : (s1 * so).tdiv 1000000 = K := by rw [HS.out]; exact Int.tdiv_eq_ediv_of_nonneg z1
  have e4 : IntKind.i64.wrap K = K := IntWalk.i64_in _ (by omega)
  have e5 : IntKind.i64.wrap (q1 + wa + K) = q1 + wa + K := IntWalk.i64_in _ (by omega)
  refine ⟨ret_int ?_, hBB⟩
  simp only [e1, e2, e3, e4, e5]

theorem ends_cov1 (bb bd : Nat) (x y : Int) (w : World) (hlo : ∀ W, Below w.heap.size w W → Calls Tryz.prog 95 #[.func (.func 110) #[] #[], .func (.func 111) #[] #[], .pointer (some ⟨bb, 0, none⟩), .pointer (some ⟨bd, 0, none⟩)] W fun e w' => e = .returned (.int .i64 x) ∧ Below W.heap.size W w')
    (hhi : ∀ W, Below w.heap.size w W → Calls Tryz.prog 95 #[.func (.func 111) #[] #[], .func (.func 110) #[] #[], .pointer (some ⟨bb, 0, none⟩), .pointer (some ⟨bd, 0, none⟩)] W fun e w' => e = .returned (.int .i64 y) ∧ Below W.heap.size W w') :
    Calls Tryz.prog 94 #[.func (.func 95) #[] #[.pointer (some ⟨bb, 0, none⟩), .pointer (some ⟨bd, 0, none⟩)]] w fun e w' => e = .returned (.agg #[.int .i64 x, .int .i64 y]) ∧ Below w.heap.size w w' := by
  have H1 := Lib.hid hlo
  have H2 := Lib.hid hhi
  clear hlo hhi
  go_enter Tryz.func94, Tryz.ntmps94
  go_wp2_with fail
  refine (H1.out _ ?_).mono ?_
  · (repeat (first | exact Below.refl _ _ | assumption | refine Below.drew ?_ | refine Below.drewN ?_ _ | refine blT ?_ | refine blU ?_))
  rintro e w1 ⟨rfl, hb1⟩
  have B1 : Below w.heap.size w w1 := bwS (by (repeat (first | exact Below.refl _ _ | assumption | refine Below.drew ?_ | refine Below.drewN ?_ _ | refine blT ?_ | refine blU ?_))) (Nat.le_refl _) hb1
  have K1 : Blk w1 w.heap.size #[.int .i64 0, .int .i64 0] 24 := (Blk.new w _ _).call hb1
  clear hb1
  go_wp2_with fail
  refine (H2.out _ ?_).mono ?_
  · exact B1
  rintro e w2 ⟨rfl, hb2⟩
  have B2 : Below w.heap.size w w2 := bwS B1 (Nat.le_refl _) hb2
  have K2 : Blk w2 w.heap.size #[.int .i64 0, .int .i64 0] 24 := K1.call hb2
  clear hb2 B1 K1 H1 H2
  have c0 : w2.cell? ⟨w.heap.size, 0, none⟩ = some (.int .i64 0) := K2.cell 0 rfl
  have c1 : w2.cell? ⟨w.heap.size, 1, none⟩ = some (.int .i64 0) := K2.cell 1 rfl
  have f0 := K2.free 0
  have f1 := K2.free 1
  have hf := (K2.set 0 (.int .i64 x)).set 1 (.int .i64 y)
  have Q0 := Lib.hid (show ((w2.setCell ⟨w.heap.size, 0, none⟩ (.int .i64 x)).setCell ⟨w.heap.size, 1, none⟩ (.int .i64 y)).cell? ⟨w.heap.size, 0, none⟩ = some (.int .i64 x) from hf.cell 0 rfl)
  have Q1 := Lib.hid (show ((w2.setCell ⟨w.heap.size, 0, none⟩ (.int .i64 x)).setCell ⟨w.heap.size, 1, none⟩ (.int .i64 y)).cell? ⟨w.heap.size, 1, none⟩ = some (.int .i64 y) from hf.cell 1 rfl)
  clear hf K2
  go_wp2
  refine bodyPost_ret (v := .agg #[.int .i64 x, .int .i64 y]) (by simp [results, Tryz.results94, go_sem, Q0.out, Q1.out]) rfl ⟨rfl, by (repeat (first | exact Below.refl _ _ | assumption | refine Below.drew ?_ | refine Below.drewN ?_ _ | refine blT ?_ | refine blU ?_))⟩


theorem ends_cov2 (bb bd bl : Nat) (x y : Int) (w : World) (hlo : ∀ W, Below w.heap.size w W → Calls Tryz.prog 96 #[.func (.func 110) #[] #[], .func (.func 111) #[] #[], .pointer (some ⟨bb, 0, none⟩), .pointer (some ⟨bd, 0, none⟩), .pointer (some ⟨bl, 0, none⟩)] W fun e w' => e = .returned (.int .i64 x) ∧ Below W.heap.size W w')
    (hhi : ∀ W, Below w.heap.size w W → Calls Tryz.prog 96 #[.func (.func 111) #[] #[], .func (.func 110) #[] #[], .pointer (some ⟨bb, 0, none⟩), .pointer (some ⟨bd, 0, none⟩), .pointer (some ⟨bl, 0, none⟩)] W fun e w' => e = .returned (.int .i64 y) ∧ Below W.heap.size W w') :
    Calls Tryz.prog 94 #[.func (.func 96) #[] #[.pointer (some ⟨bb, 0, none⟩), .pointer (some ⟨bd, 0, none⟩), .pointer (some ⟨bl, 0, none⟩)]] w fun e w' => e = .returned (.agg #[.int .i64 x, .int .i64 y]) ∧ Below w.heap.size w w' := by
  have H1 := Lib.hid hlo
  have H2 := Lib.hid hhi
  clear hlo hhi
  go_enter Tryz.func94, Tryz.ntmps94
  go_wp2_with fail
  refine (H1.out _ ?_).mono ?_
  · (repeat (first | exact Below.refl _ _ | assumption | refine Below.drew ?_ | refine Below.drewN ?_ _ | refine blT ?_ | refine blU ?_))
  rintro e w1 ⟨rfl, hb1⟩
  have B1 : Below w.heap.size w w1 := bwS (by (repeat (first | exact Below.refl _ _ | assumption | refine Below.drew ?_ | refine Below.drewN ?_ _ | refine blT ?_ | refine blU ?_))) (Nat.le_refl _) hb1
  have K1 : Blk w1 w.heap.size #[.int .i64 0, .int .i64 0] 24 := (Blk.new w _ _).call hb1
  clear hb1
  go_wp2_with fail
  refine (H2.out _ ?_).mono ?_
  · exact B1
  rintro e w2 ⟨rfl, hb2⟩
  have B2 : Below w.heap.size w w2 := bwS B1 (Nat.le_refl _) hb2
  have K2 : Blk w2 w.heap.size #[.int .i64 0, .int .i64 0] 24 := K1.call hb2
  clear hb2 B1 K1 H1 H2
  have c0 : w2.cell? ⟨w.heap.size, 0, none⟩ = some (.int .i64 0) := K2.cell 0 rfl
  have c1 : w2.cell? ⟨w.heap.size, 1, none⟩ = some (.int .i64 0) := K2.cell 1 rfl
  have f0 := K2.free 0
  have f1 := K2.free 1
  have hf := (K2.set 0 (.int .i64 x)).set 1 (.int .i64 y)
  have Q0 := Lib.hid (show ((w2.setCell ⟨w.heap.size, 0, none⟩ (.int .i64 x)).setCell ⟨w.heap.size, 1, none⟩ (.int .i64 y)).cell? ⟨w.heap.size, 0, none⟩ = some (.int .i64 x) from hf.cell 0 rfl)
  have Q1 := Lib.hid (show ((w2.setCell ⟨w.heap.size, 0, none⟩ (.int .i64 x)).setCell ⟨w.heap.size, 1, none⟩ (.int .i64 y)).cell? ⟨w.heap.size, 1, none⟩ = some (.int .i64 y) from hf.cell 1 rfl)
  clear hf K2
  go_wp2
  refine bodyPost_ret (v := .agg #[.int .i64 x, .int .i64 y]) (by simp [results, Tryz.results94, go_sem, Q0.out, Q1.out]) rfl ⟨rfl, by (repeat (first | exact Below.refl _ _ | assumption | refine Below.drew ?_ | refine Below.drewN ?_ _ | refine blT ?_ | refine blU ?_))⟩

end Go.Proofs.YtdbiijldincoiaaGreat

/-
  What a cold day makes of the layers: contracts of frost.freeze, of its closures at both ends, and of frost.ends at each.
-/
import Derived.Test.YtdbiijldincoiaaGreatTail
import Derived.Test.YtdbiijldincoiaaGreatGrow
set_option linter.unusedVariables false
set_option linter.unusedSimpArgs false
namespace Go.Proofs.YtdbiijldincoiaaGreat
open Go.RowKit

set_option maxRecDepth 100000 in
set_option maxHeartbeats 1000000 in
theorem frz1_lo (gr la : Int) (va : Option Addr) (n cap : Nat) (m0 m1 so h0 h1 : Int) (b0 b1 w0 w1 q0 q1 s0 s1 g0 g1 : Int) (bl bb bg : Nat) (w : World) (kl : Blk w bl #[.int .i64 gr, .int .i64 la, .slice va n cap, .int .i64 m0, .int .i64 m1, .int .i64 so, .int .i64 h0, .int .i64 h1] 26) (kb : Blk w bb #[.int .i64 b0, .int .i64 b1, .int .i64 w0, .int .i64 w1, .int .i64 q0, .int .i64 q1, .int .i64 s0, .int .i64 s1] 105) (kg : Blk w bg #[.int .i64 g0, .int .i64 g1] 24)
    (x1 : 0 ≤ gr) (x2 : gr ≤ 10000) (x3 : 1 ≤ la) (i1 : 0 ≤ b0) (i2 : b0 ≤ 1000000000) (i3 : 0 ≤ b1) (i4 : b1 ≤ 1000000000) (a1 : 0 ≤ w0) (a2 : w0 ≤ 1000000000) (a3 : 0 ≤ w1) (a4 : w1 ≤ 1000000000) (y1 : 0 ≤ q0) (y2 : q0 ≤ 1000000000) (y3 : 0 ≤ q1) (y4 : q1 ≤ 1000000000) (k1 : 0 ≤ g0) (k2 : g0 ≤ 100000) (k3 : 0 ≤ g1) (k4 : g1 ≤ 100000) :
    Calls Tryz.prog 100 #[.func (.func 110) #[] #[], .func (.func 111) #[] #[], .pointer (some ⟨bl, 0, none⟩), .pointer (some ⟨bb, 0, none⟩), .pointer (some ⟨bg, 0, none⟩)] w fun e w' => e = .returned (.int .i64 (grownP rtI gr la b0 w1 q1 g0)) ∧ Below w.heap.size w w' := by
  have hG : ∀ W, Calls Tryz.prog 101 #[.agg #[.int .i64 gr, .int .i64 la, (.slice va n cap), .int .i64 m0, .int .i64 m1, .int .i64 so, .int .i64 h0, .int .i64 h1], .agg #[.int .i64 b0, .int .i64 b1, .int .i64 w0, .int .i64 w1, .int .i64 q0, .int .i64 q1, .int .i64 s0, .int .i64 s1], .agg #[.int .i64 g0, .int .i64 g1], .func (.func 110) #[] #[], .func (.func 111) #[] #[]] W fun e w' => e = .returned (.int .i64 (grownP rtI gr la b0 w1 q1 g0)) ∧ Below W.heap.size W w' := fun W => grown_lo _ _ _ _ _ _ _ _ _ _ _ _ _ _ _ _ _ _ _ _ W x1 x2 x3 i1 i2 a3 a4 y3 y4 k1 k2
  have HG := Lib.hid hG
  clear hG
  obtain ⟨l0, l1, l2, l3, l4, l5, l6, l7⟩ := kl.c8
  obtain ⟨c0, c1, c2, c3, c4, c5, c6, c7⟩ := kb.c8
  obtain ⟨d0, d1⟩ := kg.c2
  go_enter Tryz.func100, Tryz.ntmps100
  go_wp2_with fail
  refine (HG.out _).mono ?_
  rintro e w2 ⟨rfl, hb2⟩
  go_wp2
  go_ret
  exact ⟨rfl, hb2⟩

set_option maxRecDepth 100000 in
set_option maxHeartbeats 2000000 in
theorem frz2_lo (gr la : Int) (va : Option Addr) (n cap : Nat) (m0 m1 so h0 h1 : Int) (b0 b1 w0 w1 q0 q1 s0 s1 g0 g1 : Int) (bl bb bg : Nat) (w : World) (kl : Blk w bl #[.int .i64 gr, .int .i64 la, .slice va n cap, .int .i64 m0, .int .i64 m1, .int .i64 so, .int .i64 h0, .int .i64 h1] 26) (kb : Blk w bb #[.int .i64 b0, .int .i64 b1, .int .i64 w0, .int .i64 w1, .int .i64 q0, .int .i64 q1, .int .i64 s0, .int .i64 s1] 105) (kg : Blk w bg #[.int .i64 g0, .int .i64 g1] 24)
    (x1 : 0 ≤ gr) (x2 : gr ≤ 10000) (x3 : 1 ≤ la) (i1 : 0 ≤ b0) (i2 : b0 ≤ 1000000000) (i3 : 0 ≤ b1) (i4 : b1 ≤ 1000000000) (a1 : 0 ≤ w0) (a2 : w0 ≤ 1000000000) (a3 : 0 ≤ w1) (a4 : w1 ≤ 1000000000) (y1 : 0 ≤ q0) (y2 : q0 ≤ 1000000000) (y3 : 0 ≤ q1) (y4 : q1 ≤ 1000000000) (k1 : 0 ≤ g0) (k2 : g0 ≤ 100000) (k3 : 0 ≤ g1) (k4 : g1 ≤ 100000) :
    Calls Tryz.prog 102 #[.func (.func 110) #[] #[], .func (.func 111) #[] #[], .pointer (some ⟨bb, 0, none⟩), .pointer (some ⟨bl, 0, none⟩), .pointer (some ⟨bg, 0, none⟩)] w fun e w' => e = .returned (.int .i64 (w0 + min q0 (g0 / la))) ∧ Below w.heap.size w w' := by
  have hZ : ∀ W, Calls Tryz.prog 103 #[.agg #[.int .i64 gr, .int .i64 la, (.slice va n cap), .int .i64 m0, .int .i64 m1, .int .i64 so, .int .i64 h0, .int .i64 h1], .int .i64 q0, .int .i64 g0] W fun e w' => e = .returned (.int .i64 (min q0 (g0 / la))) ∧ Below W.heap.size W w' := fun W => frozen_any _ _ _ _ _ _ _ _ _ _ W ⟨_, _, _, rfl⟩ x3 (by omega) (by omega)
  obtain ⟨F0, F1, _, _, _, _, _, _⟩ := grow_facts gr la 0 0 q0 g0 x1 x2 x3 (by omega) (by omega) (by omega) (by omega) (by omega) (by omega) (by omega)
  generalize min q0 (g0 / la) = z at F0 F1 hZ ⊢
  have HZ := Lib.hid hZ
  clear hZ
  obtain ⟨l0, l1, l2, l3, l4, l5, l6, l7⟩ := kl.c8
  obtain ⟨c0, c1, c2, c3, c4, c5, c6, c7⟩ := kb.c8
  obtain ⟨d0, d1⟩ := kg.c2
  clear c0 c1 c6 c7
  go_enter Tryz.func102, Tryz.ntmps102
  go_wp2_with fail
  refine wp_region_held_drew (S := (fun w' => w'.cell? ⟨bl, 0, none⟩ = some (.int .i64 gr) ∧ w'.cell? ⟨bl, 1, none⟩ = some (.int .i64 la) ∧ w'.cell? ⟨bl, 2, none⟩ = some (.slice va n cap) ∧ w'.cell? ⟨bl, 3, none⟩ = some (.int .i64 m0) ∧ w'.cell? ⟨bl, 4, none⟩ = some (.int .i64 m1) ∧ w'.cell? ⟨bl, 5, none⟩ = some (.int .i64 so) ∧ w'.cell? ⟨bl, 6, none⟩ = some (.int .i64 h0) ∧ w'.cell? ⟨bl, 7, none⟩ = some (.int .i64 h1) ∧ w'.cell? ⟨bb, 2, none⟩ = some (.int .i64 w0) ∧ w'.cell? ⟨bb, 3, none⟩ = some (.int .i64 w1) ∧ w'.cell? ⟨bb, 4, none⟩ = some (.int .i64 q0) ∧ w'.cell? ⟨bb, 5, none⟩ = some (.int .i64 q1) ∧ w'.cell? ⟨bg, 0, none⟩ = some (.int .i64 g0) ∧ w'.cell? ⟨bg, 1, none⟩ = some (.int .i64 g1) ∧ Below w.heap.size w w')) (by kernel_rfl) ?_ (fun hH => ?_)
  · (try dsimp only); (go_split_ands; refine ⟨?_, ?_, ?_, ?_, ?_, ?_, ?_, ?_, ?_, ?_, ?_, ?_, ?_, ?_, ?_⟩ <;> (first | assumption | (go_simp; done) | (go_keep; done) | (refine cell_later hb ?_; first | assumption | (go_keep; done)) | (refine bwS ?_ ?_ hb; (first | assumption | ((repeat (first | exact Below.refl _ _ | assumption | refine Below.drew ?_ | refine Below.drewN ?_ _ | refine blT ?_ | refine blU ?_)); done)); (first | exact Nat.le_refl _ | (simp; done) | (simp; omega))) | ((repeat (first | exact Below.refl _ _ | assumption | refine Below.drew ?_ | refine Below.drewN ?_ _ | refine blT ?_ | refine blU ?_)); done)))
  refine tkY 0 (some 8) ?_ ?_ ?_
  rotate_left
  · intro w _; go_simp; (try with_reducible rfl)
  (try simp only [cq])
  refine tkY 1 (some 9) ?_ ?_ ?_
  rotate_left
  · intro w hS0; go_simp; (try with_reducible rfl)
  (try simp only [cq])
  refine tkY 2 (some 10) ?_ ?_ ?_
  rotate_left
  · intro w hS0; go_simp; (try with_reducible rfl)
  (try simp only [cq])
  refine tkY 4 (some 12) ?_ ?_ ?_
  rotate_left
  · intro w hS0; go_simp; (try with_reducible rfl)
  (try simp only [cq])
  refine tkY 5 (some 13) ?_ ?_ ?_
  rotate_left
  · intro w _; go_simp; (try with_reducible rfl)
  (try simp only [cq])
  refine tkY 6 (some 14) ?_ ?_ ?_
  rotate_left
  · intro w hS0; go_simp; (try with_reducible rfl)
  (try simp only [cq])
  refine tkY 7 (some 15) ?_ ?_ ?_
  rotate_left
  · intro w hS0; go_simp; (try with_reducible rfl)
  (try simp only [cq])
  refine tkY 9 (some 17) ?_ ?_ ?_
  rotate_left
  · intro w _; go_simp; (try with_reducible rfl)
  (try simp only [cq])
  refine tkY 10 (some 18) ?_ ?_ ?_
  rotate_left
  · intro w hS0; go_simp; (try with_reducible rfl)
  (try simp only [cq])
  refine wpAnyH_ready (rs := [3]) (by kernel_rfl) (by simp) ?_
  refine arc1 (some 11) fun K hK => ?_
  go_simp
  (refine (low_any _ _ _).mono ?_; rintro e w' ⟨rfl, hb⟩)
  refine hK.out _ _ ?_ (fun hH => ?_)
  · (go_split_ands; refine ⟨?_, ?_, ?_, ?_, ?_, ?_, ?_, ?_, ?_, ?_, ?_, ?_, ?_, ?_, ?_⟩ <;> (first | assumption | (go_simp; done) | (go_keep; done) | (refine cell_later hb ?_; first | assumption | (go_keep; done)) | (refine bwS ?_ ?_ hb; (first | assumption | ((repeat (first | exact Below.refl _ _ | assumption | refine Below.drew ?_ | refine Below.drewN ?_ _ | refine blT ?_ | refine blU ?_)); done)); (first | exact Nat.le_refl _ | (simp; done) | (simp; omega))) | ((repeat (first | exact Below.refl _ _ | assumption | refine Below.drew ?_ | refine Below.drewN ?_ _ | refine blT ?_ | refine blU ?_)); done)))
  clear hK K
  (try simp only [cq])
  refine wpAnyH_ready (rs := [8]) (by kernel_rfl) (by simp) ?_
  refine arc1 (some 16) fun K hK => ?_
  go_simp
  (refine (low_any _ _ _).mono ?_; rintro e w' ⟨rfl, hb⟩)
  refine hK.out _ _ ?_ (fun hH => ?_)
  · (go_split_ands; refine ⟨?_, ?_, ?_, ?_, ?_, ?_, ?_, ?_, ?_, ?_, ?_, ?_, ?_, ?_, ?_⟩ <;> (first | assumption | (go_simp; done) | (go_keep; done) | (refine cell_later hb ?_; first | assumption | (go_keep; done)) | (refine bwS ?_ ?_ hb; (first | assumption | ((repeat (first | exact Below.refl _ _ | assumption | refine Below.drew ?_ | refine Below.drewN ?_ _ | refine blT ?_ | refine blU ?_)); done)); (first | exact Nat.le_refl _ | (simp; done) | (simp; omega))) | ((repeat (first | exact Below.refl _ _ | assumption | refine Below.drew ?_ | refine Below.drewN ?_ _ | refine blT ?_ | refine blU ?_)); done)))
  clear hK K
  (try simp only [cq])
  refine wpAnyH_ready (rs := [11]) (by kernel_rfl) (by simp) ?_
  refine arc1 (some 19) fun K hK => ?_
  go_simp
  (refine (low_any _ _ _).mono ?_; rintro e w' ⟨rfl, hb⟩)
  refine hK.out _ _ ?_ (fun hH => ?_)
  · (go_split_ands; refine ⟨?_, ?_, ?_, ?_, ?_, ?_, ?_, ?_, ?_, ?_, ?_, ?_, ?_, ?_, ?_⟩ <;> (first | assumption | (go_simp; done) | (go_keep; done) | (refine cell_later hb ?_; first | assumption | (go_keep; done)) | (refine bwS ?_ ?_ hb; (first | assumption | ((repeat (first | exact Below.refl _ _ | assumption | refine Below.drew ?_ | refine Below.drewN ?_ _ | refine blT ?_ | refine blU ?_)); done)); (first | exact Nat.le_refl _ | (simp; done) | (simp; omega))) | ((repeat (first | exact Below.refl _ _ | assumption | refine Below.drew ?_ | refine Below.drewN ?_ _ | refine blT ?_ | refine blU ?_)); done)))
  clear hK K
  (try simp only [cq])
  refine wpAnyH_ready (rs := [12]) (by kernel_rfl) (by simp) ?_
  refine arc1 (some 20) fun K hK => ?_
  go_simp
  (refine (HZ.out _).mono ?_; rintro e w' ⟨rfl, hb⟩)
  refine hK.out _ _ ?_ (fun hH => ?_)
  · (go_split_ands; refine ⟨?_, ?_, ?_, ?_, ?_, ?_, ?_, ?_, ?_, ?_, ?_, ?_, ?_, ?_, ?_⟩ <;> (first | assumption | (go_simp; done) | (go_keep; done) | (refine cell_later hb ?_; first | assumption | (go_keep; done)) | (refine bwS ?_ ?_ hb; (first | assumption | ((repeat (first | exact Below.refl _ _ | assumption | refine Below.drew ?_ | refine Below.drewN ?_ _ | refine blT ?_ | refine blU ?_)); done)); (first | exact Nat.le_refl _ | (simp; done) | (simp; omega))) | ((repeat (first | exact Below.refl _ _ | assumption | refine Below.drew ?_ | refine Below.drewN ?_ _ | refine blT ?_ | refine blU ?_)); done)))
  clear hK K
  (try simp only [cq])
  refine tkY 13 (some 21) ?_ ?_ ?_
  rotate_left
  · intro w _; go_simp; (try with_reducible rfl)
  (try simp only [cq])
  refine tkY 14 (some 7) ?_ ?_ ?_
  rotate_left
  · intro w _; go_simp; (try with_reducible rfl)
  (try simp only [cq])
  refine wpAnyH_done (by kernel_rfl) ?_ _
  (try dsimp only [Act.put])
  (try simp only [cq])
  have hBB : Below w.heap.size w _ := hH.2.2.2.2.2.2.2.2.2.2.2.2.2.2
  clear hH
  go_wp2
  go_ret
  exact ⟨ret_int (IntWalk.i64_in _ (by omega)), hBB⟩

set_option maxRecDepth 100000 in
set_option maxHeartbeats 2000000 in
theorem frz3_lo (gr la : Int) (va : Option Addr) (n cap : Nat) (m0 m1 so h0 h1 : Int) (b0 b1 w0 w1 q0 q1 s0 s1 g0 g1 : Int) (bl bb bg : Nat) (w : World) (kl : Blk w bl #[.int .i64 gr, .int .i64 la, .slice va n cap, .int .i64 m0, .int .i64 m1, .int .i64 so, .int .i64 h0, .int .i64 h1] 26) (kb : Blk w bb #[.int .i64 b0, .int .i64 b1, .int .i64 w0, .int .i64 w1, .int .i64 q0, .int .i64 q1, .int .i64 s0, .int .i64 s1] 105) (kg : Blk w bg #[.int .i64 g0, .int .i64 g1] 24)
    (x1 : 0 ≤ gr) (x2 : gr ≤ 10000) (x3 : 1 ≤ la) (i1 : 0 ≤ b0) (i2 : b0 ≤ 1000000000) (i3 : 0 ≤ b1) (i4 : b1 ≤ 1000000000) (a1 : 0 ≤ w0) (a2 : w0 ≤ 1000000000) (a3 : 0 ≤ w1) (a4 : w1 ≤ 1000000000) (y1 : 0 ≤ q0) (y2 : q0 ≤ 1000000000) (y3 : 0 ≤ q1) (y4 : q1 ≤ 1000000000) (k1 : 0 ≤ g0) (k2 : g0 ≤ 100000) (k3 : 0 ≤ g1) (k4 : g1 ≤ 100000) :
    Calls Tryz.prog 104 #[.func (.func 110) #[] #[], .func (.func 111) #[] #[], .pointer (some ⟨bb, 0, none⟩), .pointer (some ⟨bl, 0, none⟩), .pointer (some ⟨bg, 0, none⟩)] w fun e w' => e = .returned (.int .i64 (q0 - min q0 (g1 / la))) ∧ Below w.heap.size w w' := by
  have hZ : ∀ W, Calls Tryz.prog 103 #[.agg #[.int .i64 gr, .int .i64 la, (.slice va n cap), .int .i64 m0, .int .i64 m1, .int .i64 so, .int .i64 h0, .int .i64 h1], .int .i64 q0, .int .i64 g1] W fun e w' => e = .returned (.int .i64 (min q0 (g1 / la))) ∧ Below W.heap.size W w' := fun W => frozen_any _ _ _ _ _ _ _ _ _ _ W ⟨_, _, _, rfl⟩ x3 (by omega) (by omega)
  obtain ⟨F0, F1, _, _, _, _, _, _⟩ := grow_facts gr la 0 0 q0 g1 x1 x2 x3 (by omega) (by omega) (by omega) (by omega) (by omega) (by omega) (by omega)
  generalize min q0 (g1 / la) = z at F0 F1 hZ ⊢
  have HZ := Lib.hid hZ
  clear hZ
  obtain ⟨l0, l1, l2, l3, l4, l5, l6, l7⟩ := kl.c8
  obtain ⟨c0, c1, c2, c3, c4, c5, c6, c7⟩ := kb.c8
  obtain ⟨d0, d1⟩ := kg.c2
  clear c0 c1 c2 c3 c6 c7 l0 l1 l2 l3 l4 l5 l6 l7 d0 d1
  go_enter Tryz.func104, Tryz.ntmps104
  go_wp2_with fail
  refine (low_any _ _ _).mono ?_
  rintro e w1 ⟨rfl, hb1⟩
  obtain ⟨l0, l1, l2, l3, l4, l5, l6, l7⟩ := (kl.call hb1).c8
  obtain ⟨d0, d1⟩ := (kg.call hb1).c2
  clear c4 c5
  go_wp2_with fail
  refine wp_region_held_drew (S := (fun w' => w'.cell? ⟨bl, 0, none⟩ = some (.int .i64 gr) ∧ w'.cell? ⟨bl, 1, none⟩ = some (.int .i64 la) ∧ w'.cell? ⟨bl, 2, none⟩ = some (.slice va n cap) ∧ w'.cell? ⟨bl, 3, none⟩ = some (.int .i64 m0) ∧ w'.cell? ⟨bl, 4, none⟩ = some (.int .i64 m1) ∧ w'.cell? ⟨bl, 5, none⟩ = some (.int .i64 so) ∧ w'.cell? ⟨bl, 6, none⟩ = some (.int .i64 h0) ∧ w'.cell? ⟨bl, 7, none⟩ = some (.int .i64 h1) ∧ w'.cell? ⟨bg, 0, none⟩ = some (.int .i64 g0) ∧ w'.cell? ⟨bg, 1, none⟩ = some (.int .i64 g1) ∧ Below w.heap.size w w')) (by kernel_rfl) ?_ (fun hH => ?_)
  · (try dsimp only); (go_split_ands; refine ⟨?_, ?_, ?_, ?_, ?_, ?_, ?_, ?_, ?_, ?_, ?_⟩ <;> (first | assumption | (go_simp; done) | (go_keep; done) | (refine cell_later hb ?_; first | assumption | (go_keep; done)) | (refine bwS ?_ ?_ hb; (first | assumption | ((repeat (first | exact Below.refl _ _ | assumption | refine Below.drew ?_ | refine Below.drewN ?_ _ | refine blT ?_ | refine blU ?_)); done)); (first | exact Nat.le_refl _ | (simp; done) | (simp; omega))) | ((repeat (first | exact Below.refl _ _ | assumption | refine Below.drew ?_ | refine Below.drewN ?_ _ | refine blT ?_ | refine blU ?_)); done)))
  refine tkY 0 (some 13) ?_ ?_ ?_
  rotate_left
  · intro w _; go_simp; (try with_reducible rfl)
  (try simp only [cq])
  refine tkY 1 (some 14) ?_ ?_ ?_
  rotate_left
  · intro w hS0; go_simp; (try with_reducible rfl)
  (try simp only [cq])
  refine tkY 2 (some 15) ?_ ?_ ?_
  rotate_left
  · intro w _; go_simp; (try with_reducible rfl)
  (try simp only [cq])
  refine tkY 3 (some 16) ?_ ?_ ?_
  rotate_left
  · intro w _; go_simp; (try with_reducible rfl)
  (try simp only [cq])
  refine tkY 4 (some 17) ?_ ?_ ?_
  rotate_left
  · intro w hS0; go_simp; (try with_reducible rfl)
  (try simp only [cq])
  refine wpAnyH_ready (rs := [5]) (by kernel_rfl) (by simp) ?_
  refine arc1 (some 18) fun K hK => ?_
  go_simp
  (refine (high_any _ _ _).mono ?_; rintro e w' ⟨rfl, hb⟩)
  refine hK.out _ _ ?_ (fun hH => ?_)
  · (go_split_ands; refine ⟨?_, ?_, ?_, ?_, ?_, ?_, ?_, ?_, ?_, ?_, ?_⟩ <;> (first | assumption | (go_simp; done) | (go_keep; done) | (refine cell_later hb ?_; first | assumption | (go_keep; done)) | (refine bwS ?_ ?_ hb; (first | assumption | ((repeat (first | exact Below.refl _ _ | assumption | refine Below.drew ?_ | refine Below.drewN ?_ _ | refine blT ?_ | refine blU ?_)); done)); (first | exact Nat.le_refl _ | (simp; done) | (simp; omega))) | ((repeat (first | exact Below.refl _ _ | assumption | refine Below.drew ?_ | refine Below.drewN ?_ _ | refine blT ?_ | refine blU ?_)); done)))
  clear hK K
  (try simp only [cq])
  refine wpAnyH_ready (rs := [6]) (by kernel_rfl) (by simp) ?_
  refine arc1 (some 19) fun K hK => ?_
  go_simp
  (refine (HZ.out _).mono ?_; rintro e w' ⟨rfl, hb⟩)
  refine hK.out _ _ ?_ (fun hH => ?_)
  · (go_split_ands; refine ⟨?_, ?_, ?_, ?_, ?_, ?_, ?_, ?_, ?_, ?_, ?_⟩ <;> (first | assumption | (go_simp; done) | (go_keep; done) | (refine cell_later hb ?_; first | assumption | (go_keep; done)) | (refine bwS ?_ ?_ hb; (first | assumption | ((repeat (first | exact Below.refl _ _ | assumption | refine Below.drew ?_ | refine Below.drewN ?_ _ | refine blT ?_ | refine blU ?_)); done)); (first | exact Nat.le_refl _ | (simp; done) | (simp; omega))) | ((repeat (first | exact Below.refl _ _ | assumption | refine Below.drew ?_ | refine Below.drewN ?_ _ | refine blT ?_ | refine blU ?_)); done)))
  clear hK K
  (try simp only [cq])
  refine tkY 7 (some 20) ?_ ?_ ?_
  rotate_left
  · intro w _; go_simp; (try with_reducible rfl)
  (try simp only [cq])
  refine tkY 8 (some 7) ?_ ?_ ?_
  rotate_left
  · intro w _; go_simp; (try with_reducible rfl)
  (try simp only [cq])
  refine wpAnyH_done (by kernel_rfl) ?_ _
  (try dsimp only [Act.put])
  (try simp only [cq])
  have hBB : Below w.heap.size w _ := hH.2.2.2.2.2.2.2.2.2.2
  clear hH
  go_wp2
  go_ret
  exact ⟨ret_int (IntWalk.i64_in _ (by omega)), hBB⟩

set_option maxRecDepth 100000 in
set_option maxHeartbeats 1000000 in
theorem frz1_hi (gr la : Int) (va : Option Addr) (n cap : Nat) (m0 m1 so h0 h1 : Int) (b0 b1 w0 w1 q0 q1 s0 s1 g0 g1 : Int) (bl bb bg : Nat) (w : World) (kl : Blk w bl #[.int .i64 gr, .int .i64 la, .slice va n cap, .int .i64 m0, .int .i64 m1, .int .i64 so, .int .i64 h0, .int .i64 h1] 26) (kb : Blk w bb #[.int .i64 b0, .int .i64 b1, .int .i64 w0, .int .i64 w1, .int .i64 q0, .int .i64 q1, .int .i64 s0, .int .i64 s1] 105) (kg : Blk w bg #[.int .i64 g0, .int .i64 g1] 24)
    (x1 : 0 ≤ gr) (x2 : gr ≤ 10000) (x3 : 1 ≤ la) (i1 : 0 ≤ b0) (i2 : b0 ≤ 1000000000) (i3 : 0 ≤ b1) (i4 : b1 ≤ 1000000000) (a1 : 0 ≤ w0) (a2 : w0 ≤ 1000000000) (a3 : 0 ≤ w1) (a4 : w1 ≤ 1000000000) (y1 : 0 ≤ q0) (y2 : q0 ≤ 1000000000) (y3 : 0 ≤ q1) (y4 : q1 ≤ 1000000000) (k1 : 0 ≤ g0) (k2 : g0 ≤ 100000) (k3 : 0 ≤ g1) (k4 : g1 ≤ 100000) :
    Calls Tryz.prog 100 #[.func (.func 111) #[] #[], .func (.func 110) #[] #[], .pointer (some ⟨bl, 0, none⟩), .pointer (some ⟨bb, 0, none⟩), .pointer (some ⟨bg, 0, none⟩)] w fun e w' => e = .returned (.int .i64 (grownP rfI gr la b1 w0 q0 g1)) ∧ Below w.heap.size w w' := by
  have hG : ∀ W, Calls Tryz.prog 101 #[.agg #[.int .i64 gr, .int .i64 la, (.slice va n cap), .int .i64 m0, .int .i64 m1, .int .i64 so, .int .i64 h0, .int .i64 h1], .agg #[.int .i64 b0, .int .i64 b1, .int .i64 w0, .int .i64 w1, .int .i64 q0, .int .i64 q1, .int .i64 s0, .int .i64 s1], .agg #[.int .i64 g0, .int .i64 g1], .func (.func 111) #[] #[], .func (.func 110) #[] #[]] W fun e w' => e = .returned (.int .i64 (grownP rfI gr la b1 w0 q0 g1)) ∧ Below W.heap.size W w' := fun W => grown_hi _ _ _ _ _ _ _ _ _ _ _ _ _ _ _ _ _ _ _ _ W x1 x2 x3 i3 i4 a1 a2 y1 y2 k3 k4
  have HG := Lib.hid hG
  clear hG
  obtain ⟨l0, l1, l2, l3, l4, l5, l6, l7⟩ := kl.c8
  obtain ⟨c0, c1, c2, c3, c4, c5, c6, c7⟩ := kb.c8
  obtain ⟨d0, d1⟩ := kg.c2
  go_enter Tryz.func100, Tryz.ntmps100
  go_wp2_with fail
  refine (HG.out _).mono ?_
  rintro e w2 ⟨rfl, hb2⟩
  go_wp2
  go_ret
  exact ⟨rfl, hb2⟩

set_option maxRecDepth 100000 in
set_option maxHeartbeats 2000000 in
theorem frz2_hi (gr la : Int) (va : Option Addr) (n cap : Nat) (m0 m1 so h0 h1 : Int) (b0 b1 w0 w1 q0 q1 s0 s1 g0 g1 : Int) (bl bb bg : Nat) (w : World) (kl : Blk w bl #[.int .i64 gr, .int .i64 la, .slice va n cap, .int .i64 m0, .int .i64 m1, .int .i64 so, .int .i64 h0, .int .i64 h1] 26) (kb : Blk w bb #[.int .i64 b0, .int .i64 b1, .int .i64 w0, .int .i64 w1, .int .i64 q0, .int .i64 q1, .int .i64 s0, .int .i64 s1] 105) (kg : Blk w bg #[.int .i64 g0, .int .i64 g1] 24)
    (x1 : 0 ≤ gr) (x2 : gr ≤ 10000) (x3 : 1 ≤ la) (i1 : 0 ≤ b0) (i2 : b0 ≤ 1000000000) (i3 : 0 ≤ b1) (i4 : b1 ≤ 1000000000) (a1 : 0 ≤ w0) (a2 : w0 ≤ 1000000000) (a3 : 0 ≤ w1) (a4 : w1 ≤ 1000000000) (y1 : 0 ≤ q0) (y2 : q0 ≤ 1000000000) (y3 : 0 ≤ q1) (y4 : q1 ≤ 1000000000) (k1 : 0 ≤ g0) (k2 : g0 ≤ 100000) (k3 : 0 ≤ g1) (k4 : g1 ≤ 100000) :
    Calls Tryz.prog 102 #[.func (.func 111) #[] #[], .func (.func 110) #[] #[], .pointer (some ⟨bb, 0, none⟩), .pointer (some ⟨bl, 0, none⟩), .pointer (some ⟨bg, 0, none⟩)] w fun e w' => e = .returned (.int .i64 (w1 + min q1 (g1 / la))) ∧ Below w.heap.size w w' := by
  have hZ : ∀ W, Calls Tryz.prog 103 #[.agg #[.int .i64 gr, .int .i64 la, (.slice va n cap), .int .i64 m0, .int .i64 m1, .int .i64 so, .int .i64 h0, .int .i64 h1], .int .i64 q1, .int .i64 g1] W fun e w' => e = .returned (.int .i64 (min q1 (g1 / la))) ∧ Below W.heap.size W w' := fun W => frozen_any _ _ _ _ _ _ _ _ _ _ W ⟨_, _, _, rfl⟩ x3 (by omega) (by omega)
  obtain ⟨F0, F1, _, _, _, _, _, _⟩ := grow_facts gr la 0 0 q1 g1 x1 x2 x3 (by omega) (by omega) (by omega) (by omega) (by omega) (by omega) (by omega)
  generalize min q1 (g1 / la) = z at F0 F1 hZ ⊢
  have HZ := Lib.hid hZ
  clear hZ
  obtain ⟨l0, l1, l2, l3, l4, l5, l6, l7⟩ := kl.c8
  obtain ⟨c0, c1, c2, c3, c4, c5, c6, c7⟩ := kb.c8
  obtain ⟨d0, d1⟩ := kg.c2
  clear c0 c1 c6 c7
  go_enter Tryz.func102, Tryz.ntmps102
  go_wp2_with fail
  refine wp_region_held_drew (S := (fun w' => w'.cell? ⟨bl, 0, none⟩ = some (.int .i64 gr) ∧ w'.cell? ⟨bl, 1, none⟩ = some (.int .i64 la) ∧ w'.cell? ⟨bl, 2, none⟩ = some (.slice va n cap) ∧ w'.cell? ⟨bl, 3, none⟩ = some (.int .i64 m0) ∧ w'.cell? ⟨bl, 4, none⟩ = some (.int .i64 m1) ∧ w'.cell? ⟨bl, 5, none⟩ = some (.int .i64 so) ∧ w'.cell? ⟨bl, 6, none⟩ = some (.int .i64 h0) ∧ w'.cell? ⟨bl, 7, none⟩ = some (.int .i64 h1) ∧ w'.cell? ⟨bb, 2, none⟩ = some (.int .i64 w0) ∧ w'.cell? ⟨bb, 3, none⟩ = some (.int .i64 w1) ∧ w'.cell? ⟨bb, 4, none⟩ = some (.int .i64 q0) ∧ w'.cell? ⟨bb, 5, none⟩ = some (.int .i64 q1) ∧ w'.cell? ⟨bg, 0, none⟩ = some (.int .i64 g0) ∧ w'.cell? ⟨bg, 1, none⟩ = some (.int .i64 g1) ∧ Below w.heap.size w w')) (by kernel_rfl) ?_ (fun hH => ?_)
  · (try dsimp only); (go_split_ands; refine ⟨?_, ?_, ?_, ?_, ?_, ?_, ?_, ?_, ?_, ?_, ?_, ?_, ?_, ?_, ?_⟩ <;> (first | assumption | (go_simp; done) | (go_keep; done) | (refine cell_later hb ?_; first | assumption | (go_keep; done)) | (refine bwS ?_ ?_ hb; (first | assumption | ((repeat (first | exact Below.refl _ _ | assumption | refine Below.drew ?_ | refine Below.drewN ?_ _ | refine blT ?_ | refine blU ?_)); done)); (first | exact Nat.le_refl _ | (simp; done) | (simp; omega))) | ((repeat (first | exact Below.refl _ _ | assumption | refine Below.drew ?_ | refine Below.drewN ?_ _ | refine blT ?_ | refine blU ?_)); done)))
  refine tkY 0 (some 8) ?_ ?_ ?_
  rotate_left
  · intro w _; go_simp; (try with_reducible rfl)
  (try simp only [cq])
  refine tkY 1 (some 9) ?_ ?_ ?_
  rotate_left
  · intro w hS0; go_simp; (try with_reducible rfl)
  (try simp only [cq])
  refine tkY 2 (some 10) ?_ ?_ ?_
  rotate_left
  · intro w hS0; go_simp; (try with_reducible rfl)
  (try simp only [cq])
  refine tkY 4 (some 12) ?_ ?_ ?_
  rotate_left
  · intro w hS0; go_simp; (try with_reducible rfl)
  (try simp only [cq])
  refine tkY 5 (some 13) ?_ ?_ ?_
  rotate_left
  · intro w _; go_simp; (try with_reducible rfl)
  (try simp only [cq])
  refine tkY 6 (some 14) ?_ ?_ ?_
  rotate_left
  · intro w hS0; go_simp; (try with_reducible rfl)
  (try simp only [cq])
  refine tkY 7 (some 15) ?_ ?_ ?_
  rotate_left
  · intro w hS0; go_simp; (try with_reducible rfl)
  (try simp only [cq])
  refine tkY 9 (some 17) ?_ ?_ ?_
  rotate_left
  · intro w _; go_simp; (try with_reducible rfl)
  (try simp only [cq])
  refine tkY 10 (some 18) ?_ ?_ ?_
  rotate_left
  · intro w hS0; go_simp; (try with_reducible rfl)
  (try simp only [cq])
  refine wpAnyH_ready (rs := [3]) (by kernel_rfl) (by simp) ?_
  refine arc1 (some 11) fun K hK => ?_
  go_simp
  (refine (high_any _ _ _).mono ?_; rintro e w' ⟨rfl, hb⟩)
  refine hK.out _ _ ?_ (fun hH => ?_)
  · (go_split_ands; refine ⟨?_, ?_, ?_, ?_, ?_, ?_, ?_, ?_, ?_, ?_, ?_, ?_, ?_, ?_, ?_⟩ <;> (first | assumption | (go_simp; done) | (go_keep; done) | (refine cell_later hb ?_; first | assumption | (go_keep; done)) | (refine bwS ?_ ?_ hb; (first | assumption | ((repeat (first | exact Below.refl _ _ | assumption | refine Below.drew ?_ | refine Below.drewN ?_ _ | refine blT ?_ | refine blU ?_)); done)); (first | exact Nat.le_refl _ | (simp; done) | (simp; omega))) | ((repeat (first | exact Below.refl _ _ | assumption | refine Below.drew ?_ | refine Below.drewN ?_ _ | refine blT ?_ | refine blU ?_)); done)))
  clear hK K
  (try simp only [cq])
  refine wpAnyH_ready (rs := [8]) (by kernel_rfl) (by simp) ?_
  refine arc1 (some 16) fun K hK => ?_
  go_simp
  (refine (high_any _ _ _).mono ?_; rintro e w' ⟨rfl, hb⟩)
  refine hK.out _ _ ?_ (fun hH => ?_)
  · (go_split_ands; refine ⟨?_, ?_, ?_, ?_, ?_, ?_, ?_, ?_, ?_, ?_, ?_, ?_, ?_, ?_, ?_⟩ <;> (first | assumption | (go_simp; done) | (go_keep; done) | (refine cell_later hb ?_; first | assumption | (go_keep; done)) | (refine bwS ?_ ?_ hb; (first | assumption | ((repeat (first | exact Below.refl _ _ | assumption | refine Below.drew ?_ | refine Below.drewN ?_ _ | refine blT ?_ | refine blU ?_)); done)); (first | exact Nat.le_refl _ | (simp; done) | (simp; omega))) | ((repeat (first | exact Below.refl _ _ | assumption | refine Below.drew ?_ | refine Below.drewN ?_ _ | refine blT ?_ | refine blU ?_)); done)))
  clear hK K
  (try simp only [cq])
  refine wpAnyH_ready (rs := [11]) (by kernel_rfl) (by simp) ?_
  refine arc1 (some 19) fun K hK => ?_
  go_simp
  (refine (high_any _ _ _).mono ?_; rintro e w' ⟨rfl, hb⟩)
  refine hK.out _ _ ?_ (fun hH => ?_)
  · (go_split_ands; refine ⟨?_, ?_, ?_, ?_, ?_, ?_, ?_, ?_, ?_, ?_, ?_, ?_, ?_, ?_, ?_⟩ <;> (first | assumption | (go_simp; done) | (go_keep; done) | (refine cell_later hb ?_; first | assumption | (go_keep; done)) | (refine bwS ?_ ?_ hb; (first | assumption | ((repeat (first | exact Below.refl _ _ | assumption | refine Below.drew ?_ | refine Below.drewN ?_ _ | refine blT ?_ | refine blU ?_)); done)); (first | exact Nat.le_refl _ | (simp; done) | (simp; omega))) | ((repeat (first | exact Below.refl _ _ | assumption | refine Below.drew ?_ | refine Below.drewN ?_ _ | refine blT ?_ | refine blU ?_)); done)))
  clear hK K
  (try simp only [cq])
  refine wpAnyH_ready (rs := [12]) (by kernel_rfl) (by simp) ?_
  refine arc1 (some 20) fun K hK => ?_
  go_simp
  (refine (HZ.out _).mono ?_; rintro e w' ⟨rfl, hb⟩)
  refine hK.out _ _ ?_ (fun hH => ?_)
  · (go_split_ands; refine ⟨?_, ?_, ?_, ?_, ?_, ?_, ?_, ?_, ?_, ?_, ?_, ?_, ?_, ?_, ?_⟩ <;> (first | assumption | (go_simp; done) | (go_keep; done) | (refine cell_later hb ?_; first | assumption | (go_keep; done)) | (refine bwS ?_ ?_ hb; (first | assumption | ((repeat (first | exact Below.refl _ _ | assumption | refine Below.drew ?_ | refine Below.drewN ?_ _ | refine blT ?_ | refine blU ?_)); done)); (first | exact Nat.le_refl _ | (simp; done) | (simp; omega))) | ((repeat (first | exact Below.refl _ _ | assumption | refine Below.drew ?_ | refine Below.drewN ?_ _ | refine blT ?_ | refine blU ?_)); done)))
  clear hK K
  (try simp only [cq])
  refine tkY 13 (some 21) ?_ ?_ ?_
  rotate_left
  · intro w _; go_simp; (try with_reducible rfl)
  (try simp only [cq])
  refine tkY 14 (some 7) ?_ ?_ ?_
  rotate_left
  · intro w _; go_simp; (try with_reducible rfl)
  (try simp only [cq])
  refine wpAnyH_done (by kernel_rfl) ?_ _
  (try dsimp only [Act.put])
  (try simp only [cq])
  have hBB : Below w.heap.size w _ := hH.2.2.2.2.2.2.2.2.2.2.2.2.2.2
  clear hH
  go_wp2
  go_ret
  exact ⟨ret_int (IntWalk.i64_in _ (by omega)), hBB⟩

set_option maxRecDepth 100000 in
set_option maxHeartbeats 2000000 in
theorem frz3_hi (gr la : Int) (va : Option Addr) (n cap : Nat) (m0 m1 so h0 h1 : Int) (b0 b1 w0 w1 q0 q1 s0 s1 g0 g1 : Int) (bl bb bg : Nat) (w : World) (kl : Blk w bl #[.int .i64 gr, .int .i64 la, .slice va n cap, .int .i64 m0, .int .i64 m1, .int .i64 so, .int .i64 h0, .int .i64 h1] 26) (kb : Blk w bb #[.int .i64 b0, .int .i64 b1, .int .i64 w0, .int .i64 w1, .int .i64 q0, .int .i64 q1, .int .i64 s0, .int .i64 s1] 105) (kg : Blk w bg #[.int .i64 g0, .int .i64 g1] 24)
    (x1 : 0 ≤ gr) (x2 : gr ≤ 10000) (x3 : 1 ≤ la) (i1 : 0 ≤ b0) (i2 : b0 ≤ 1000000000) (i3 : 0 ≤ b1) (i4 : b1 ≤ 1000000000) (a1 : 0 ≤ w0) (a2 : w0 ≤ 1000000000) (a3 : 0 ≤ w1) (a4 : w1 ≤ 1000000000) (y1 : 0 ≤ q0) (y2 : q0 ≤ 1000000000) (y3 : 0 ≤ q1) (y4 : q1 ≤ 1000000000) (k1 : 0 ≤ g0) (k2 : g0 ≤ 100000) (k3 : 0 ≤ g1) (k4 : g1 ≤ 100000) :
    Calls Tryz.prog 104 #[.func (.func 111) #[] #[], .func (.func 110) #[] #[], .pointer (some ⟨bb, 0, none⟩), .pointer (some ⟨bl, 0, none⟩), .pointer (some ⟨bg, 0, none⟩)] w fun e w' => e = .returned (.int .i64 (q1 - min q1 (g0 / la))) ∧ Below w.heap.size w w' := by
  have hZ : ∀ W, Calls Tryz.prog 103 #[.agg #[.int .i64 gr, .int .i64 la, (.slice va n cap), .int .i64 m0, .int .i64 m1, .int .i64 so, .int .i64 h0, .int .i64 h1], .int .i64 q1, .int .i64 g0] W fun e w' => e = .returned (.int .i64 (min q1 (g0 / la))) ∧ Below W.heap.size W w' := fun W => frozen_any _ _ _ _ _ _ _ _ _ _ W ⟨_, _, _, rfl⟩ x3 (by omega) (by omega)
  obtain ⟨F0, F1, _, _, _, _, _, _⟩ := grow_facts gr la 0 0 q1 g0 x1 x2 x3 (by omega) (by omega) (by omega) (by omega) (by omega) (by omega) (by omega)
  generalize min q1 (g0 / la) = z at F0 F1 hZ ⊢
  have HZ := Lib.hid hZ
  clear hZ
  obtain ⟨l0, l1, l2, l3, l4, l5, l6, l7⟩ := kl.c8
  obtain ⟨c0, c1, c2, c3, c4, c5, c6, c7⟩ := kb.c8
  obtain ⟨d0, d1⟩ := kg.c2
  clear c0 c1 c2 c3 c6 c7 l0 l1 l2 l3 l4 l5 l6 l7 d0 d1
  go_enter Tryz.func104, Tryz.ntmps104
  go_wp2_with fail
  refine (high_any _ _ _).mono ?_
  rintro e w1 ⟨rfl, hb1⟩
  obtain ⟨l0, l1, l2, l3, l4, l5, l6, l7⟩ := (kl.call hb1).c8
  obtain ⟨d0, d1⟩ := (kg.call hb1).c2
  clear c4 c5
  go_wp2_with fail
  refine wp_region_held_drew (S := (fun w' => w'.cell? ⟨bl, 0, none⟩ = some (.int .i64 gr) ∧ w'.cell? ⟨bl, 1, none⟩ = some (.int .i64 la) ∧ w'.cell? ⟨bl, 2, none⟩ = some (.slice va n cap) ∧ w'.cell? ⟨bl, 3, none⟩ = some (.int .i64 m0) ∧ w'.cell? ⟨bl, 4, none⟩ = some (.int .i64 m1) ∧ w'.cell? ⟨bl, 5, none⟩ = some (.int .i64 so) ∧ w'.cell? ⟨bl, 6, none⟩ = some (.int .i64 h0) ∧ w'.cell? ⟨bl, 7, none⟩ = some (.int .i64 h1) ∧ w'.cell? ⟨bg, 0, none⟩ = some (.int .i64 g0) ∧ w'.cell? ⟨bg, 1, none⟩ = some (.int .i64 g1) ∧ Below w.heap.size w w')) (by kernel_rfl) ?_ (fun hH => ?_)
  · (try dsimp only); (go_split_ands; refine ⟨?_, ?_, ?_, ?_, ?_, ?_, ?_, ?_, ?_, ?_, ?_⟩ <;> (first | assumption | (go_simp; done) | (go_keep; done) | (refine cell_later hb ?_; first | assumption | (go_keep; done)) | (refine bwS ?_ ?_ hb; (first | assumption | ((repeat (first | exact Below.refl _ _ | assumption | refine Below.drew ?_ | refine Below.drewN ?_ _ | refine blT ?_ | refine blU ?_)); done)); (first | exact Nat.le_refl _ | (simp; done) | (simp; omega))) | ((repeat (first | exact Below.refl _ _ | assumption | refine Below.drew ?_ | refine Below.drewN ?_ _ | refine blT ?_ | refine blU ?_)); done)))
  refine tkY 0 (some 13) ?_ ?_ ?_
  rotate_left
  · intro w _; go_simp; (try with_reducible rfl)
  (try simp only [cq])
  refine tkY 1 (some 14) ?_ ?_ ?_
  rotate_left
  · intro w hS0; go_simp; (try with_reducible rfl)
  (try simp only [cq])
  refine tkY 2 (some 15) ?_ ?_ ?_
  rotate_left
  · intro w _; go_simp; (try with_reducible rfl)
  (try simp only [cq])
  refine tkY 3 (some 16) ?_ ?_ ?_
  rotate_left
  · intro w _; go_simp; (try with_reducible rfl)
  (try simp only [cq])
  refine tkY 4 (some 17) ?_ ?_ ?_
  rotate_left
  · intro w hS0; go_simp; (try with_reducible rfl)
  (try simp only [cq])
  refine wpAnyH_ready (rs := [5]) (by kernel_rfl) (by simp) ?_
  refine arc1 (some 18) fun K hK => ?_
  go_simp
  (refine (low_any _ _ _).mono ?_; rintro e w' ⟨rfl, hb⟩)
  refine hK.out _ _ ?_ (fun hH => ?_)
  · (go_split_ands; refine ⟨?_, ?_, ?_, ?_, ?_, ?_, ?_, ?_, ?_, ?_, ?_⟩ <;> (first | assumption | (go_simp; done) | (go_keep; done) | (refine cell_later hb ?_; first | assumption | (go_keep; done)) | (refine bwS ?_ ?_ hb; (first | assumption | ((repeat (first | exact Below.refl _ _ | assumption | refine Below.drew ?_ | refine Below.drewN ?_ _ | refine blT ?_ | refine blU ?_)); done)); (first | exact Nat.le_refl _ | (simp; done) | (simp; omega))) | ((repeat (first | exact Below.refl _ _ | assumption | refine Below.drew ?_ | refine Below.drewN ?_ _ | refine blT ?_ | refine blU ?_)); done)))
  clear hK K
  (try simp only [cq])
  refine wpAnyH_ready (rs := [6]) (by kernel_rfl) (by simp) ?_
  refine arc1 (some 19) fun K hK => ?_
  go_simp
  (refine (HZ.out _).mono ?_; rintro e w' ⟨rfl, hb⟩)
  refine hK.out _ _ ?_ (fun hH => ?_)
  · (go_split_ands; refine ⟨?_, ?_, ?_, ?_, ?_, ?_, ?_, ?_, ?_, ?_, ?_⟩ <;> (first | assumption | (go_simp; done) | (go_keep; done) | (refine cell_later hb ?_; first | assumption | (go_keep; done)) | (refine bwS ?_ ?_ hb; (first | assumption | ((repeat (first | exact Below.refl _ _ | assumption | refine Below.drew ?_ | refine Below.drewN ?_ _ | refine blT ?_ | refine blU ?_)); done)); (first | exact Nat.le_refl _ | (simp; done) | (simp; omega))) | ((repeat (first | exact Below.refl _ _ | assumption | refine Below.drew ?_ | refine Below.drewN ?_ _ | refine blT ?_ | refine blU ?_)); done)))
  clear hK K
  (try simp only [cq])
  refine tkY 7 (some 20) ?_ ?_ ?_
  rotate_left
  · intro w _; go_simp; (try with_reducible rfl)
  (try simp only [cq])
  refine tkY 8 (some 7) ?_ ?_ ?_
  rotate_left
  · intro w _; go_simp; (try with_reducible rfl)
  (try simp only [cq])
  refine wpAnyH_done (by kernel_rfl) ?_ _
  (try dsimp only [Act.put])
  (try simp only [cq])
  have hBB : Below w.heap.size w _ := hH.2.2.2.2.2.2.2.2.2.2
  clear hH
  go_wp2
  go_ret
  exact ⟨ret_int (IntWalk.i64_in _ (by omega)), hBB⟩

theorem ends_frz1 (bl bb bg : Nat) (x y : Int) (w : World) (hlo : ∀ W, Below w.heap.size w W → Calls Tryz.prog 100 #[.func (.func 110) #[] #[], .func (.func 111) #[] #[], .pointer (some ⟨bl, 0, none⟩), .pointer (some ⟨bb, 0, none⟩), .pointer (some ⟨bg, 0, none⟩)] W fun e w' => e = .returned (.int .i64 x) ∧ Below W.heap.size W w')
    (hhi : ∀ W, Below w.heap.size w W → Calls Tryz.prog 100 #[.func (.func 111) #[] #[], .func (.func 110) #[] #[], .pointer (some ⟨bl, 0, none⟩), .pointer (some ⟨bb, 0, none⟩), .pointer (some ⟨bg, 0, none⟩)] W fun e w' => e = .returned (.int .i64 y) ∧ Below W.heap.size W w') :
    Calls Tryz.prog 94 #[.func (.func 100) #[] #[.pointer (some ⟨bl, 0, none⟩), .pointer (some ⟨bb, 0, none⟩), .pointer (some ⟨bg, 0, none⟩)]] w fun e w' => e = .returned (.agg #[.int .i64 x, .int .i64 y]) ∧ Below w.heap.size w w' := by
  have H1 := Lib.hid hlo
  have H2 := Lib.hid hhi
  clear hlo hhi
  go_enter Tryz.func94, Tryz.ntmps94
  go_wp2_with fail
  refine (H1.out _ ?_).mono ?_
  · (repeat (first | exact Below.refl _ _ | assumption | refine Below.drew ?_ | refine Below.drewN ?_ _ | refine blT ?_ | refine blU ?_))
  rintro e w1 ⟨rfl, hb1⟩
  have B1 : Below w.heap.size w w1 := bwS (by (repeat (first | exact Below.refl _ _ | assumption | refine Below.drew ?_ | refine Below.drewN ?_ _ | refine blT ?_ | refine blU ?_))) (Nat.le_refl _) hb1
  have K1 : Blk w1 w.heap.size #[.int .i64 0, .int .i64 0] 24 := (Blk.new w _ _).call hb1
  clear hb1
  go_wp2_with fail
  refine (H2.out _ ?_).mono ?_
  · exact B1
  rintro e w2 ⟨rfl, hb2⟩
  have B2 : Below w.heap.size w w2 := bwS B1 (Nat.le_refl _) hb2
  have K2 : Blk w2 w.heap.size #[.int .i64 0, .int .i64 0] 24 := K1.call hb2
  clear hb2 B1 K1 H1 H2
  have c0 : w2.cell? ⟨w.heap.size, 0, none⟩ = some (.int .i64 0) := K2.cell 0 rfl
  have c1 : w2.cell? ⟨w.heap.size, 1, none⟩ = some (.int .i64 0) := K2.cell 1 rfl
  have f0 := K2.free 0
  have f1 := K2.free 1
  have hf := (K2.set 0 (.int .i64 x)).set 1 (.int .i64 y)
  have Q0 := Lib.hid (show ((w2.setCell ⟨w.heap.size, 0, none⟩ (.int .i64 x)).setCell ⟨w.heap.size, 1, none⟩ (.int .i64 y)).cell? ⟨w.heap.size, 0, none⟩ = some (.int .i64 x) from hf.cell 0 rfl)
  have Q1 := Lib.hid (show ((w2.setCell ⟨w.heap.size, 0, none⟩ (.int .i64 x)).setCell ⟨w.heap.size, 1, none⟩ (.int .i64 y)).cell? ⟨w.heap.size, 1, none⟩ = some (.int .i64 y) from hf.cell 1 rfl)
  clear hf K2
  go_wp2
  refine bodyPost_ret (v := .agg #[.int .i64 x, .int .i64 y]) (by simp [results, Tryz.results94, go_sem, Q0.out, Q1.out]) rfl ⟨rfl, by (repeat (first | exact Below.refl _ _ | assumption | refine Below.drew ?_ | refine Below.drewN ?_ _ | refine blT ?_ | refine blU ?_))⟩


theorem ends_frz2 (bb bl bg : Nat) (x y : Int) (w : World) (hlo : ∀ W, Below w.heap.size w W → Calls Tryz.prog 102 #[.func (.func 110) #[] #[], .func (.func 111) #[] #[], .pointer (some ⟨bb, 0, none⟩), .pointer (some ⟨bl, 0, none⟩), .pointer (some ⟨bg, 0, none⟩)] W fun e w' => e = .returned (.int .i64 x) ∧ Below W.heap.size W w')
    (hhi : ∀ W, Below w.heap.size w W → Calls Tryz.prog 102 #[.func (.func 111) #[] #[], .func (.func 110) #[] #[], .pointer (some ⟨bb, 0, none⟩), .pointer (some ⟨bl, 0, none⟩), .pointer (some ⟨bg, 0, none⟩)] W fun e w' => e = .returned (.int .i64 y) ∧ Below W.heap.size W w') :
    Calls Tryz.prog 94 #[.func (.func 102) #[] #[.pointer (some ⟨bb, 0, none⟩), .pointer (some ⟨bl, 0, none⟩), .pointer (some ⟨bg, 0, none⟩)]] w fun e w' => e = .returned (.agg #[.int .i64 x, .int .i64 y]) ∧ Below w.heap.size w w' := by
  have H1 := Lib.hid hlo
  have H2 := Lib.hid hhi
  clear hlo hhi
  go_enter Tryz.func94, Tryz.ntmps94
  go_wp2_with fail
  refine (H1.out _ ?_).mono ?_
  · (repeat (first | exact Below.refl _ _ | assumption | refine Below.drew ?_ | refine Below.drewN ?_ _ | refine blT ?_ | refine blU ?_))
  rintro e w1 ⟨rfl, hb1⟩
  have B1 : Below w.heap.size w w1 := bwS (by (repeat (first | exact Below.refl _ _ | assumption | refine Below.drew ?_ | refine Below.drewN ?_ _ | refine blT ?_ | refine blU ?_))) (Nat.le_refl _) hb1
  have K1 : Blk w1 w.heap.size #[.int .i64 0, .int .i64 0] 24 := (Blk.new w _ _).call hb1
  clear hb1
  go_wp2_with fail
  refine (H2.out _ ?_).mono ?_
  · exact B1
  rintro e w2 ⟨rfl, hb2⟩
  have B2 : Below w.heap.size w w2 := bwS B1 (Nat.le_refl _) hb2
  have K2 : Blk w2 w.heap.size #[.int .i64 0, .int .i64 0] 24 := K1.call hb2
  clear hb2 B1 K1 H1 H2
  have c0 : w2.cell? ⟨w.heap.size, 0, none⟩ = some (.int .i64 0) := K2.cell 0 rfl
  have c1 : w2.cell? ⟨w.heap.size, 1, none⟩ = some (.int .i64 0) := K2.cell 1 rfl
  have f0 := K2.free 0
  have f1 := K2.free 1
  have hf := (K2.set 0 (.int .i64 x)).set 1 (.int .i64 y)
  have Q0 := Lib.hid (show ((w2.setCell ⟨w.heap.size, 0, none⟩ (.int .i64 x)).setCell ⟨w.heap.size, 1, none⟩ (.int .i64 y)).cell? ⟨w.heap.size, 0, none⟩ = some (.int .i64 x) from hf.cell 0 rfl)
  have Q1 := Lib.hid (show ((w2.setCell ⟨w.heap.size, 0, none⟩ (.int .i64 x)).setCell ⟨w.heap.size, 1, none⟩ (.int .i64 y)).cell? ⟨w.heap.size, 1, none⟩ = some (.int .i64 y) from hf.cell 1 rfl)
  clear hf K2
  go_wp2
  refine bodyPost_ret (v := .agg #[.int .i64 x, .int .i64 y]) (by simp [results, Tryz.results94, go_sem, Q0.out, Q1.out]) rfl ⟨rfl, by (repeat (first | exact Below.refl _ _ | assumption | refine Below.drew ?_ | refine Below.drewN ?_ _ | refine blT ?_ | refine blU ?_))⟩


theorem ends_frz3 (bb bl bg : Nat) (x y : Int) (w : World) (hlo : ∀ W, Below w.heap.size w W → Calls Tryz.prog 104 #[.func (.func 110) #[] #[], .func (.func 111) #[] #[], .pointer (some ⟨bb, 0, none⟩), .pointer (some ⟨bl, 0, none⟩), .pointer (some ⟨bg, 0, none⟩)] W fun e w' => e = .returned (.int .i64 x) ∧ Below W.heap.size W w')
    (hhi : ∀ W, Below w.heap.size w W → Calls Tryz.prog 104 #[.func (.func 111) #[] #[], .func (.func 110) #[] #[], .pointer (some ⟨bb, 0, none⟩), .pointer (some ⟨bl, 0, none⟩), .pointer (some ⟨bg, 0, none⟩)] W fun e w' => e = .returned (.int .i64 y) ∧ Below W.heap.size W w') :
    Calls Tryz.prog 94 #[.func (.func 104) #[] #[.pointer (some ⟨bb, 0, none⟩), .pointer (some ⟨bl, 0, none⟩), .pointer (some ⟨bg, 0, none⟩)]] w fun e w' => e = .returned (.agg #[.int .i64 x, .int .i64 y]) ∧ Below w.heap.size w w' := by
  have H1 := Lib.hid hlo
  have H2 := Lib.hid hhi
  clear hlo hhi
  go_enter Tryz.func94, Tryz.ntmps94
  go_wp2_with fail
  refine (H1.out _ ?_).mono ?_
  · (repeat (first | exact Below.refl _ _ | assumption | refine Below.drew ?_ | refine Below.drewN ?_ _ | refine blT ?_ | refine blU ?_))
  rintro e w1 ⟨rfl, hb1⟩
  have B1 : Below w.heap.size w w1 := bwS (by (repeat (first | exact Below.refl _ _ | assumption | refine Below.drew ?_ | refine Below.drewN ?_ _ | refine blT ?_ | refine blU ?_))) (Nat.le_refl _) hb1
  have K1 : Blk w1 w.heap.size #[.int .i64 0, .int .i64 0] 24 := (Blk.new w _ _).call hb1
  clear hb1
  go_wp2_with fail
  refine (H2.out _ ?_).mono ?_
  · exact B1
  rintro e w2 ⟨rfl, hb2⟩
  have B2 : Below w.heap.size w w2 := bwS B1 (Nat.le_refl _) hb2
  have K2 : Blk w2 w.heap.size #[.int .i64 0, .int .i64 0] 24 := K1.call hb2
  clear hb2 B1 K1 H1 H2
  have c0 : w2.cell? ⟨w.heap.size, 0, none⟩ = some (.int .i64 0) := K2.cell 0 rfl
  have c1 : w2.cell? ⟨w.heap.size, 1, none⟩ = some (.int .i64 0) := K2.cell 1 rfl
  have f0 := K2.free 0
  have f1 := K2.free 1
  have hf := (K2.set 0 (.int .i64 x)).set 1 (.int .i64 y)
  have Q0 := Lib.hid (show ((w2.setCell ⟨w.heap.size, 0, none⟩ (.int .i64 x)).setCell ⟨w.heap.size, 1, none⟩ (.int .i64 y)).cell? ⟨w.heap.size, 0, none⟩ = some (.int .i64 x) from hf.cell 0 rfl)
  have Q1 := Lib.hid (show ((w2.setCell ⟨w.heap.size, 0, none⟩ (.int .i64 x)).setCell ⟨w.heap.size, 1, none⟩ (.int .i64 y)).cell? ⟨w.heap.size, 1, none⟩ = some (.int .i64 y) from hf.cell 1 rfl)
  clear hf K2
  go_wp2
  refine bodyPost_ret (v := .agg #[.int .i64 x, .int .i64 y]) (by simp [results, Tryz.results94, go_sem, Q0.out, Q1.out]) rfl ⟨rfl, by (repeat (first | exact Below.refl _ _ | assumption | refine Below.drew ?_ | refine Below.drewN ?_ _ | refine blT ?_ | refine blU ?_))⟩

end Go.Proofs.YtdbiijldincoiaaGreat

/-
  Black ice that grows: the contract of frost.grown at each end.
-/
import Derived.Test.YtdbiijldincoiaaGreatTail
import Derived.Test.YtdbiijldincoiaaGreatThru
set_option linter.unusedVariables false
set_option linter.unusedSimpArgs false
namespace Go.Proofs.YtdbiijldincoiaaGreat
open Go.RowKit

def grownP (R : Int → Int) (gr la ice above water cold : Int) : Int :=
  if min water (cold / la) < water then ice else R ((ice + (above + min water (cold / la))) * (ice + (above + min water (cold / la))) + gr * (cold - min water (cold / la) * la)) - (above + min water (cold / la))

theorem grow_facts (gr la ice above water cold : Int) (g1 : 0 ≤ gr) (g2 : gr ≤ 10000) (l1 : 1 ≤ la) (i1 : 0 ≤ ice) (i2 : ice ≤ 1000000000) (a1 : 0 ≤ above) (a2 : above ≤ 1000000000) (q1 : 0 ≤ water) (k1 : 0 ≤ cold) (k2 : cold ≤ 100000) :
    0 ≤ min water (cold / la) ∧ min water (cold / la) ≤ 100000 ∧ 0 ≤ min water (cold / la) * la ∧ min water (cold / la) * la ≤ cold ∧
    0 ≤ (ice + (above + min water (cold / la))) * (ice + (above + min water (cold / la))) ∧ (ice + (above + min water (cold / la))) * (ice + (above + min water (cold / la))) ≤ 8000000000000000000 ∧
    0 ≤ gr * (cold - min water (cold / la) * la) ∧ gr * (cold - min water (cold / la) * la) ≤ 1000000000 := by
  have hd0 : 0 ≤ cold / la := Int.ediv_nonneg k1 (by omega)
  have hd1 : cold / la ≤ cold := Int.ediv_le_self la k1
  have hd2 : cold / la * la ≤ cold := Int.ediv_mul_le cold (by omega)
  obtain ⟨z, hz⟩ : ∃ z, min water (cold / la) = z := ⟨_, rfl⟩
  rw [hz]
  have z0 : 0 ≤ z := by omega
  have z1 : z ≤ cold / la := by omega
  have z2 : z * la ≤ cold := Int.le_trans (Int.mul_le_mul_of_nonneg_right z1 (by omega)) hd2
  have z3 : 0 ≤ z * la := Int.mul_nonneg z0 (by omega)
  have t0 : 0 ≤ ice + (above + z) := by omega
  have t1 : ice + (above + z) ≤ 2000100000 := by omega
  have t2 : (ice + (above + z)) * (ice + (above + z)) ≤ 2000100000 * 2000100000 := Int.mul_le_mul t1 t1 t0 (by omega)
  have u0 : 0 ≤ cold - z * la := by omega
  have u1 : gr * (cold - z * la) ≤ 10000 * 100000 := Int.mul_le_mul g2 (by omega) u0 (by omega)
  exact ⟨z0, by omega, z3, z2, Int.mul_nonneg t0 t0, by omega, Int.mul_nonneg g1 u0, by omega⟩

theorem rfI_bd (n : Int) (h : n ≤ 9223372036854775807) : 0 ≤ rfI n ∧ rfI n ≤ 3037000500 := by
  have := rtI_bd n h
  unfold rfI
  split <;> omega

set_option maxRecDepth 100000 in
set_option maxHeartbeats 2000000 in
theorem grown_lo (gr la : Int) (va : Option Addr) (n cap : Nat) (m0 m1 so h0 h1 : Int) (b0 b1 w0 w1 q0 q1 s0 s1 g0 g1 : Int) (w : World) (x1 : 0 ≤ gr) (x2 : gr ≤ 10000) (x3 : 1 ≤ la)
    (i1 : 0 ≤ b0) (i2 : b0 ≤ 1000000000) (a1 : 0 ≤ w1) (a2 : w1 ≤ 1000000000) (y1 : 0 ≤ q1) (y2 : q1 ≤ 1000000000) (k1 : 0 ≤ g0) (k2 : g0 ≤ 100000) :
    Calls Tryz.prog 101 #[.agg #[.int .i64 gr, .int .i64 la, (.slice va n cap), .int .i64 m0, .int .i64 m1, .int .i64 so, .int .i64 h0, .int .i64 h1], .agg #[.int .i64 b0, .int .i64 b1, .int .i64 w0, .int .i64 w1, .int .i64 q0, .int .i64 q1, .int .i64 s0, .int .i64 s1], .agg #[.int .i64 g0, .int .i64 g1], .func (.func 110) #[] #[], .func (.func 111) #[] #[]] w
      fun e w' => e = .returned (.int .i64 (grownP rtI gr la b0 w1 q1 g0)) ∧ Below w.heap.size w w' := by
  obtain ⟨F0, F1, F2, F3, F4, F5, F6, F7⟩ := grow_facts gr la b0 w1 q1 g0 x1 x2 x3 i1 i2 a1 a2 y1 k1 k2
  have hZ : ∀ W, Calls Tryz.prog 103 #[.agg #[.int .i64 gr, .int .i64 la, (.slice va n cap), .int .i64 m0, .int .i64 m1, .int .i64 so, .int .i64 h0, .int .i64 h1], .int .i64 q1, .int .i64 g0] W fun e w' => e = .returned (.int .i64 (min q1 (g0 / la))) ∧ Below W.heap.size W w' := fun W => frozen_any _ _ _ _ _ _ _ _ _ _ W ⟨_, _, _, rfl⟩ x3 k1 (by omega)
  have HG : Hid (grownP rtI gr la b0 w1 q1 g0 = if min q1 (g0 / la) < q1 then b0 else rtI ((b0 + (w1 + min q1 (g0 / la))) * (b0 + (w1 + min q1 (g0 / la))) + gr * (g0 - min q1 (g0 / la) * la)) - (w1 + min q1 (g0 / la))) := rfl
  generalize min q1 (g0 / la) = z at F0 F1 F2 F3 F4 F5 F6 F7 hZ HG
  have hR : ∀ W, Calls Tryz.prog 114 #[.int .i64 ((b0 + (w1 + z)) * (b0 + (w1 + z)) + gr * (g0 - z * la))] W fun e w' => e = .returned (.agg #[.int .i64 (rtI ((b0 + (w1 + z)) * (b0 + (w1 + z)) + gr * (g0 - z * la))), .int .i64 (rfI ((b0 + (w1 + z)) * (b0 + (w1 + z)) + gr * (g0 - z * la)))]) ∧ Below W.heap.size W w' := fun W => roots_any _ W (by omega) (by omega)
  have hrb := rtI_bd ((b0 + (w1 + z)) * (b0 + (w1 + z)) + gr * (g0 - z * la)) (by omega)
  obtain ⟨hrb1, hrb2⟩ := hrb
  have HZ := Lib.hid hZ
  have HR := Lib.hid hR
  clear hZ hR
  go_enter Tryz.func101, Tryz.ntmps101
  go_wp2_with fail
  refine wp_region_held_drew (S := (fun w' => Blk w' w.heap.size #[.int .i64 gr, .int .i64 la, .slice va n cap, .int .i64 m0, .int .i64 m1, .int .i64 so, .int .i64 h0, .int .i64 h1] 26 ∧
          w'.cell? ⟨w.heap.size + 1, 0, none⟩ = some (.int .i64 b0) ∧ w'.cell? ⟨w.heap.size + 1, 1, none⟩ = some (.int .i64 b1) ∧ w'.cell? ⟨w.heap.size + 1, 2, none⟩ = some (.int .i64 w0) ∧ w'.cell? ⟨w.heap.size + 1, 3, none⟩ = some (.int .i64 w1) ∧ w'.cell? ⟨w.heap.size + 1, 4, none⟩ = some (.int .i64 q0) ∧ w'.cell? ⟨w.heap.size + 1, 5, none⟩ = some (.int .i64 q1) ∧ w'.cell? ⟨w.heap.size + 1, 6, none⟩ = some (.int .i64 s0) ∧ w'.cell? ⟨w.heap.size + 1, 7, none⟩ = some (.int .i64 s1) ∧
          w'.cell? ⟨w.heap.size + 1 + 1, 0, none⟩ = some (.int .i64 g0) ∧ w'.cell? ⟨w.heap.size + 1 + 1, 1, none⟩ = some (.int .i64 g1) ∧ Below w.heap.size w w')) (by kernel_rfl) ?_ (fun hH => ?_)
  · (try dsimp only); (refine ⟨((Blk.new _ _ _).alloc _).alloc _, ?_, ?_, ?_, ?_, ?_, ?_, ?_, ?_, ?_, ?_, ?_⟩ <;> first | (go_simp; done) | ((repeat (first | exact Below.refl _ _ | assumption | refine Below.drew ?_ | refine Below.drewN ?_ _ | refine blT ?_ | refine blU ?_)); done))
  refine tkY 0 (some 17) ?_ ?_ ?_
  rotate_left
  · intro w _; go_simp; (try with_reducible rfl)
  (try simp only [cq])
  refine tkY 1 (some 18) ?_ ?_ ?_
  rotate_left
  · intro w hS0; go_simp; (try with_reducible rfl)
  (try simp only [cq])
  refine tkY 2 (some 19) ?_ ?_ ?_
  rotate_left
  · intro w hS0; go_simp; (try with_reducible rfl)
  (try simp only [cq])
  refine tkY 4 (some 21) ?_ ?_ ?_
  rotate_left
  · intro w _; go_simp; (try with_reducible rfl)
  (try simp only [cq])
  refine tkY 5 (some 22) ?_ ?_ ?_
  rotate_left
  · intro w hS0; go_simp; (try with_reducible rfl)
  (try simp only [cq])
  refine tkY 6 (some 23) ?_ ?_ ?_
  rotate_left
  · intro w hS0; go_simp; (try with_reducible rfl)
  (try simp only [cq])
  refine tkY 8 (some 25) ?_ ?_ ?_
  rotate_left
  · intro w _; go_simp; (try with_reducible rfl)
  (try simp only [cq])
  refine tkY 9 (some 26) ?_ ?_ ?_
  rotate_left
  · intro w hS0; go_simp; (try with_reducible rfl)
  (try simp only [cq])
  refine tkY 10 (some 27) ?_ ?_ ?_
  rotate_left
  · intro w hS0; go_simp; (try with_reducible rfl)
  (try simp only [cq])
  refine tkY 12 (some 29) ?_ ?_ ?_
  rotate_left
  · intro w _; go_simp; (try with_reducible rfl)
  (try simp only [cq])
  refine tkY 13 (some 30) ?_ ?_ ?_
  rotate_left
  · intro w hS0; go_simp; (try with_reducible rfl)
  (try simp only [cq])
  refine wpAnyH_ready (rs := [3]) (by kernel_rfl) (by simp) ?_
  refine arc1 (some 20) fun K hK => ?_
  go_simp
  (refine (low_any _ _ _).mono ?_; rintro e w' ⟨rfl, hb⟩)
  refine hK.out _ _ ?_ (fun hH => ?_)
  · (go_split_ands; refine ⟨?_, ?_, ?_, ?_, ?_, ?_, ?_, ?_, ?_, ?_, ?_, ?_⟩ <;> (first | assumption | (exact Two.call (by assumption) hb) | (exact Eight.call (by assumption) hb) | (exact Blk.call (by assumption) hb) | (exact Two.alloc (by assumption) _) | (exact Eight.alloc (by assumption) _) | (exact Blk.alloc (by assumption) _) | (go_simp; done) | (go_keep; done) | (refine cell_later hb ?_; first | assumption | (go_keep; done)) | (refine bwS ?_ ?_ hb; (first | assumption | ((repeat (first | exact Below.refl _ _ | assumption | refine Below.drew ?_ | refine Below.drewN ?_ _ | refine blT ?_ | refine blU ?_)); done)); (first | exact Nat.le_refl _ | (simp; done) | (simp; omega))) | ((repeat (first | exact Below.refl _ _ | assumption | refine Below.drew ?_ | refine Below.drewN ?_ _ | refine blT ?_ | refine blU ?_)); done)))
  clear hK K
  (try simp only [cq])
  refine wpAnyH_ready (rs := [7]) (by kernel_rfl) (by simp) ?_
  refine arc1 (some 24) fun K hK => ?_
  go_simp
  (refine (high_any _ _ _).mono ?_; rintro e w' ⟨rfl, hb⟩)
  refine hK.out _ _ ?_ (fun hH => ?_)
  · (go_split_ands; refine ⟨?_, ?_, ?_, ?_, ?_, ?_, ?_, ?_, ?_, ?_, ?_, ?_⟩ <;> (first | assumption | (exact Two.call (by assumption) hb) | (exact Eight.call (by assumption) hb) | (exact Blk.call (by assumption) hb) | (exact Two.alloc (by assumption) _) | (exact Eight.alloc (by assumption) _) | (exact Blk.alloc (by assumption) _) | (go_simp; done) | (go_keep; done) | (refine cell_later hb ?_; first | assumption | (go_keep; done)) | (refine bwS ?_ ?_ hb; (first | assumption | ((repeat (first | exact Below.refl _ _ | assumption | refine Below.drew ?_ | refine Below.drewN ?_ _ | refine blT ?_ | refine blU ?_)); done)); (first | exact Nat.le_refl _ | (simp; done) | (simp; omega))) | ((repeat (first | exact Below.refl _ _ | assumption | refine Below.drew ?_ | refine Below.drewN ?_ _ | refine blT ?_ | refine blU ?_)); done)))
  clear hK K
  (try simp only [cq])
  refine wpAnyH_ready (rs := [11]) (by kernel_rfl) (by simp) ?_
  refine arc1 (some 28) fun K hK => ?_
  go_simp
  (refine (high_any _ _ _).mono ?_; rintro e w' ⟨rfl, hb⟩)
  refine hK.out _ _ ?_ (fun hH => ?_)
  · (go_split_ands; refine ⟨?_, ?_, ?_, ?_, ?_, ?_, ?_, ?_, ?_, ?_, ?_, ?_⟩ <;> (first | assumption | (exact Two.call (by assumption) hb) | (exact Eight.call (by assumption) hb) | (exact Blk.call (by assumption) hb) | (exact Two.alloc (by assumption) _) | (exact Eight.alloc (by assumption) _) | (exact Blk.alloc (by assumption) _) | (go_simp; done) | (go_keep; done) | (refine cell_later hb ?_; first | assumption | (go_keep; done)) | (refine bwS ?_ ?_ hb; (first | assumption | ((repeat (first | exact Below.refl _ _ | assumption | refine Below.drew ?_ | refine Below.drewN ?_ _ | refine blT ?_ | refine blU ?_)); done)); (first | exact Nat.le_refl _ | (simp; done) | (simp; omega))) | ((repeat (first | exact Below.refl _ _ | assumption | refine Below.drew ?_ | refine Below.drewN ?_ _ | refine blT ?_ | refine blU ?_)); done)))
  clear hK K
  (try simp only [cq])
  refine wpAnyH_ready (rs := [14]) (by kernel_rfl) (by simp) ?_
  refine arc1 (some 31) fun K hK => ?_
  go_simp
  (refine (low_any _ _ _).mono ?_; rintro e w' ⟨rfl, hb⟩)
  refine hK.out _ _ ?_ (fun hH => ?_)
  · (go_split_ands; refine ⟨?_, ?_, ?_, ?_, ?_, ?_, ?_, ?_, ?_, ?_, ?_, ?_⟩ <;> (first | assumption | (exact Two.call (by assumption) hb) | (exact Eight.call (by assumption) hb) | (exact Blk.call (by assumption) hb) | (exact Two.alloc (by assumption) _) | (exact Eight.alloc (by assumption) _) | (exact Blk.alloc (by assumption) _) | (go_simp; done) | (go_keep; done) | (refine cell_later hb ?_; first | assumption | (go_keep; done)) | (refine bwS ?_ ?_ hb; (first | assumption | ((repeat (first | exact Below.refl _ _ | assumption | refine Below.drew ?_ | refine Below.drewN ?_ _ | refine blT ?_ | refine blU ?_)); done)); (first | exact Nat.le_refl _ | (simp; done) | (simp; omega))) | ((repeat (first | exact Below.refl _ _ | assumption | refine Below.drew ?_ | refine Below.drewN ?_ _ | refine blT ?_ | refine blU ?_)); done)))
  clear hK K
  (try simp only [cq])
  refine tkY 15 (some 11) ?_ ?_ ?_
  rotate_left
  · intro w _; go_simp; (try with_reducible rfl)
  (try simp only [cq])
  refine tkY 16 (some 12) ?_ ?_ ?_
  rotate_left
  · intro w _; go_simp; (try with_reducible rfl)
  (try simp only [cq])
  refine tkY 17 (some 13) ?_ ?_ ?_
  rotate_left
  · intro w _; go_simp; (try with_reducible rfl)
  (try simp only [cq])
  refine tkY 18 (some 14) ?_ ?_ ?_
  rotate_left
  · intro w _; go_simp; (try with_reducible rfl)
  (try simp only [cq])
  refine wpAnyH_done (by kernel_rfl) ?_ _
  (try dsimp only [Act.put])
  (try simp only [cq])
  obtain ⟨hL, _, _, _, _, _, _, _, _, _, _, hBB⟩ := hH
  obtain ⟨u0, u1, u2, u3, u4, u5, u6, u7⟩ := hL.c8
  go_wp2_with fail
  refine (HZ.out _).mono ?_
  rintro e w2 ⟨rfl, hb2⟩
  have hL2 := hL.call hb2
  have hB2 : Below w.heap.size w w2 := bwS hBB (Nat.le_refl _) hb2
  clear u0 u1 u2 u3 u4 u5 u6 u7 hL hBB hb2
  obtain ⟨v0, v1, _, _, _, _, _, _⟩ := hL2.c8
  by_cases hz : z < q1
  · have HG2 := Lib.hid (HG.out.trans (if_pos hz))
    go_wp2
    go_ret
    exact ⟨ret_int HG2.out.symm, hB2⟩
  · have HG2 := Lib.hid (HG.out.trans (if_neg hz))
    go_wp2_with fail
    refine (HR.out _).mono ?_
    rintro e w3 ⟨rfl, hb3⟩
    have hB3 : Below w.heap.size w w3 := bwS hB2 (Nat.le_refl _) hb3
    go_wp2_with fail
    refine (low_any _ _ _).mono ?_
    rintro e w4 ⟨rfl, hb4⟩
    have hB4 : Below w.heap.size w w4 := bwS hB3 (Nat.le_refl _) hb4
    clear hb3 hb4
    go_wp2
    go_ret
    exact ⟨ret_int HG2.out.symm, hB4⟩
set_option maxRecDepth 100000 in
set_option maxHeartbeats 2000000 in
theorem grown_hi (gr la : Int) (va : Option Addr) (n cap : Nat) (m0 m1 so h0 h1 : Int) (b0 b1 w0 w1 q0 q1 s0 s1 g0 g1 : Int) (w : World) (x1 : 0 ≤ gr) (x2 : gr ≤ 10000) (x3 : 1 ≤ la)
    (i1 : 0 ≤ b1) (i2 : b1 ≤ 1000000000) (a1 : 0 ≤ w0) (a2 : w0 ≤ 1000000000) (y1 : 0 ≤ q0) (y2 : q0 ≤ 1000000000) (k1 : 0 ≤ g1) (k2 : g1 ≤ 100000) :
    Calls Tryz.prog 101 #[.agg #[.int .i64 gr, .int .i64 la, (.slice va n cap), .int .i64 m0, .int .i64 m1, .int .i64 so, .int .i64 h0, .int .i64 h1], .agg #[.int .i64 b0, .int .i64 b1, .int .i64 w0, .int .i64 w1, .int .i64 q0, .int .i64 q1, .int .i64 s0, .int .i64 s1], .agg #[.int .i64 g0, .int .i64 g1], .func (.func 111) #[] #[], .func (.func 110) #[] #[]] w
      fun e w' => e = .returned (.int .i64 (grownP rfI gr la b1 w0 q0 g1)) ∧ Below w.heap.size w w' := by
  obtain ⟨F0, F1, F2, F3, F4, F5, F6, F7⟩ := grow_facts gr la b1 w0 q0 g1 x1 x2 x3 i1 i2 a1 a2 y1 k1 k2
  have hZ : ∀ W, Calls Tryz.prog 103 #[.agg #[.int .i64 gr, .int .i64 la, (.slice va n cap), .int .i64 m0, .int .i64 m1, .int .i64 so, .int .i64 h0, .int .i64 h1], .int .i64 q0, .int .i64 g1] W fun e w' => e = .returned (.int .i64 (min q0 (g1 / la))) ∧ Below W.heap.size W w' := fun W => frozen_any _ _ _ _ _ _ _ _ _ _ W ⟨_, _, _, rfl⟩ x3 k1 (by omega)
  have HG : Hid (grownP rfI gr la b1 w0 q0 g1 = if min q0 (g1 / la) < q0 then b1 else rfI ((b1 + (w0 + min q0 (g1 / la))) * (b1 + (w0 + min q0 (g1 / la))) + gr * (g1 - min q0 (g1 / la) * la)) - (w0 + min q0 (g1 / la))) := rfl
  generalize min q0 (g1 / la) = z at F0 F1 F2 F3 F4 F5 F6 F7 hZ HG
  have hR : ∀ W, Calls Tryz.prog 114 #[.int .i64 ((b1 + (w0 + z)) * (b1 + (w0 + z)) + gr * (g1 - z * la))] W fun e w' => e = .returned (.agg #[.int .i64 (rtI ((b1 + (w0 + z)) * (b1 + (w0 + z)) + gr * (g1 - z * la))), .int .i64 (rfI ((b1 + (w0 + z)) * (b1 + (w0 + z)) + gr * (g1 - z * la)))]) ∧ Below W.heap.size W w' := fun W => roots_any _ W (by omega) (by omega)
  have hrb := rfI_bd ((b1 + (w0 + z)) * (b1 + (w0 + z)) + gr * (g1 - z * la)) (by omega)
  obtain ⟨hrb1, hrb2⟩ := hrb
  have HZ := Lib.hid hZ
  have HR := Lib.hid hR
  clear hZ hR
  go_enter Tryz.func101, Tryz.ntmps101
  go_wp2_with fail
  refine wp_region_held_drew (S := (fun w' => Blk w' w.heap.size #[.int .i64 gr, .int .i64 la, .slice va n cap, .int .i64 m0, .int .i64 m1, .int .i64 so, .int .i64 h0, .int .i64 h1] 26 ∧
          w'.cell? ⟨w.heap.size + 1, 0, none⟩ = some (.int .i64 b0) ∧ w'.cell? ⟨w.heap.size + 1, 1, none⟩ = some (.int .i64 b1) ∧ w'.cell? ⟨w.heap.size + 1, 2, none⟩ = some (.int .i64 w0) ∧ w'.cell? ⟨w.heap.size + 1, 3, none⟩ = some (.int .i64 w1) ∧ w'.cell? ⟨w.heap.size + 1, 4, none⟩ = some (.int .i64 q0) ∧ w'.cell? ⟨w.heap.size + 1, 5, none⟩ = some (.int .i64 q1) ∧ w'.cell? ⟨w.heap.size + 1, 6, none⟩ = some (.int .i64 s0) ∧ w'.cell? ⟨w.heap.size + 1, 7, none⟩ = some (.int .i64 s1) ∧
          w'.cell? ⟨w.heap.size + 1 + 1, 0, none⟩ = some (.int .i64 g0) ∧ w'.cell? ⟨w.heap.size + 1 + 1, 1, none⟩ = some (.int .i64 g1) ∧ Below w.heap.size w w')) (by kernel_rfl) ?_ (fun hH => ?_)
  · (try dsimp only); (refine ⟨((Blk.new _ _ _).alloc _).alloc _, ?_, ?_, ?_, ?_, ?_, ?_, ?_, ?_, ?_, ?_, ?_⟩ <;> first | (go_simp; done) | ((repeat (first | exact Below.refl _ _ | assumption | refine Below.drew ?_ | refine Below.drewN ?_ _ | refine blT ?_ | refine blU ?_)); done))
  refine tkY 0 (some 17) ?_ ?_ ?_
  rotate_left
  · intro w _; go_simp; (try with_reducible rfl)
  (try simp only [cq])
  refine tkY 1 (some 18) ?_ ?_ ?_
  rotate_left
  · intro w hS0; go_simp; (try with_reducible rfl)
  (try simp only [cq])
  refine tkY 2 (some 19) ?_ ?_ ?_
  rotate_left
  · intro w hS0; go_simp; (try with_reducible rfl)
  (try simp only [cq])
  refine tkY 4 (some 21) ?_ ?_ ?_
  rotate_left
  · intro w _; go_simp; (try with_reducible rfl)
  (try simp only [cq])
  refine tkY 5 (some 22) ?_ ?_ ?_
  rotate_left
  · intro w hS0; go_simp; (try with_reducible rfl)
  (try simp only [cq])
  refine tkY 6 (some 23) ?_ ?_ ?_
  rotate_left
  · intro w hS0; go_simp; (try with_reducible rfl)
  (try simp only [cq])
  refine tkY 8 (some 25) ?_ ?_ ?_
  rotate_left
  · intro w _; go_simp; (try with_reducible rfl)
  (try simp only [cq])
  refine tkY 9 (some 26) ?_ ?_ ?_
  rotate_left
  · intro w hS0; go_simp; (try with_reducible rfl)
  (try simp only [cq])
  refine tkY 10 (some 27) ?_ ?_ ?_
  rotate_left
  · intro w hS0; go_simp; (try with_reducible rfl)
  (try simp only [cq])
  refine tkY 12 (some 29) ?_ ?_ ?_
  rotate_left
  · intro w _; go_simp; (try with_reducible rfl)
  (try simp only [cq])
  refine tkY 13 (some 30) ?_ ?_ ?_
  rotate_left
  · intro w hS0; go_simp; (try with_reducible rfl)
  (try simp only [cq])
  refine wpAnyH_ready (rs := [3]) (by kernel_rfl) (by simp) ?_
  refine arc1 (some 20) fun K hK => ?_
  go_simp
  (refine (high_any _ _ _).mono ?_; rintro e w' ⟨rfl, hb⟩)
  refine hK.out _ _ ?_ (fun hH => ?_)
  · (go_split_ands; refine ⟨?_, ?_, ?_, ?_, ?_, ?_, ?_, ?_, ?_, ?_, ?_, ?_⟩ <;> (first | assumption | (exact Two.call (by assumption) hb) | (exact Eight.call (by assumption) hb) | (exact Blk.call (by assumption) hb) | (exact Two.alloc (by assumption) _) | (exact Eight.alloc (by assumption) _) | (exact Blk.alloc (by assumption) _) | (go_simp; done) | (go_keep; done) | (refine cell_later hb ?_; first | assumption | (go_keep; done)) | (refine bwS ?_ ?_ hb; (first | assumption | ((repeat (first | exact Below.refl _ _ | assumption | refine Below.drew ?_ | refine Below.drewN ?_ _ | refine blT ?_ | refine blU ?_)); done)); (first | exact Nat.le_refl _ | (simp; done) | (simp; omega))) | ((repeat (first | exact Below.refl _ _ | assumption | refine Below.drew ?_ | refine Below.drewN ?_ _ | refine blT ?_ | refine blU ?_)); done)))
  clear hK K
  (try simp only [cq])
  refine wpAnyH_ready (rs := [7]) (by kernel_rfl) (by simp) ?_
  refine arc1 (some 24) fun K hK => ?_
  go_simp
  (refine (low_any _ _ _).mono ?_; rintro e w' ⟨rfl, hb⟩)
  refine hK.out _ _ ?_ (fun hH => ?_)
  · (go_split_ands; refine ⟨?_, ?_, ?_, ?_, ?_, ?_, ?_, ?_, ?_, ?_, ?_, ?_⟩ <;> (first | assumption | (exact Two.call (by assumption) hb) | (exact Eight.call (by assumption) hb) | (exact Blk.call (by assumption) hb) | (exact Two.alloc (by assumption) _) | (exact Eight.alloc (by assumption) _) | (exact Blk.alloc (by assumption) _) | (go_simp; done) | (go_keep; done) | (refine cell_later hb ?_; first | assumption | (go_keep; done)) | (refine bwS ?_ ?_ hb; (first | assumption | ((repeat (first | exact Below.refl _ _ | assumption | refine Below.drew ?_ | refine Below.drewN ?_ _ | refine blT ?_ | refine blU ?_)); done)); (first | exact Nat.le_refl _ | (simp; done) | (simp; omega))) | ((repeat (first | exact Below.refl _ _ | assumption | refine Below.drew ?_ | refine Below.drewN ?_ _ | refine blT ?_ | refine blU ?_)); done)))
  clear hK K
  (try simp only [cq])
  refine wpAnyH_ready (rs := [11]) (by kernel_rfl) (by simp) ?_
  refine arc1 (some 28) fun K hK => ?_
  go_simp
  (refine (low_any _ _ _).mono ?_; rintro e w' ⟨rfl, hb⟩)
  refine hK.out _ _ ?_ (fun hH => ?_)
  · (go_split_ands; refine ⟨?_, ?_, ?_, ?_, ?_, ?_, ?_, ?_, ?_, ?_, ?_, ?_⟩ <;> (first | assumption | (exact Two.call (by assumption) hb) | (exact Eight.call (by assumption) hb) | (exact Blk.call (by assumption) hb) | (exact Two.alloc (by assumption) _) | (exact Eight.alloc (by assumption) _) | (exact Blk.alloc (by assumption) _) | (go_simp; done) | (go_keep; done) | (refine cell_later hb ?_; first | assumption | (go_keep; done)) | (refine bwS ?_ ?_ hb; (first | assumption | ((repeat (first | exact Below.refl _ _ | assumption | refine Below.drew ?_ | refine Below.drewN ?_ _ | refine blT ?_ | refine blU ?_)); done)); (first | exact Nat.le_refl _ | (simp; done) | (simp; omega))) | ((repeat (first | exact Below.refl _ _ | assumption | refine Below.drew ?_ | refine Below.drewN ?_ _ | refine blT ?_ | refine blU ?_)); done)))
  clear hK K
  (try simp only [cq])
  refine wpAnyH_ready (rs := [14]) (by kernel_rfl) (by simp) ?_
  refine arc1 (some 31) fun K hK => ?_
  go_simp
  (refine (high_any _ _ _).mono ?_; rintro e w' ⟨rfl, hb⟩)
  refine hK.out _ _ ?_ (fun hH => ?_)
  · (go_split_ands; refine ⟨?_, ?_, ?_, ?_, ?_, ?_, ?_, ?_, ?_, ?_, ?_, ?_⟩ <;> (first | assumption | (exact Two.call (by assumption) hb) | (exact Eight.call (by assumption) hb) | (exact Blk.call (by assumption) hb) | (exact Two.alloc (by assumption) _) | (exact Eight.alloc (by assumption) _) | (exact Blk.alloc (by assumption) _) | (go_simp; done) | (go_keep; done) | (refine cell_later hb ?_; first | assumption | (go_keep; done)) | (refine bwS ?_ ?_ hb; (first | assumption | ((repeat (first | exact Below.refl _ _ | assumption | refine Below.drew ?_ | refine Below.drewN ?_ _ | refine blT ?_ | refine blU ?_)); done)); (first | exact Nat.le_refl _ | (simp; done) | (simp; omega))) | ((repeat (first | exact Below.refl _ _ | assumption | refine Below.drew ?_ | refine Below.drewN ?_ _ | refine blT ?_ | refine blU ?_)); done)))
  clear hK K
  (try simp only [cq])
  refine tkY 15 (some 11) ?_ ?_ ?_
  rotate_left
  · intro w _; go_simp; (try with_reducible rfl)
  (try simp only [cq])
  refine tkY 16 (some 12) ?_ ?_ ?_
  rotate_left
  · intro w _; go_simp; (try with_reducible rfl)
  (try simp only [cq])
  refine tkY 17 (some 13) ?_ ?_ ?_
  rotate_left
  · intro w _; go_simp; (try with_reducible rfl)
  (try simp only [cq])
  refine tkY 18 (some 14) ?_ ?_ ?_
  rotate_left
  · intro w _; go_simp; (try with_reducible rfl)
  (try simp only [cq])
  refine wpAnyH_done (by kernel_rfl) ?_ _
  (try dsimp only [Act.put])
  (try simp only [cq])
  obtain ⟨hL, _, _, _, _, _, _, _, _, _, _, hBB⟩ := hH
  obtain ⟨u0, u1, u2, u3, u4, u5, u6, u7⟩ := hL.c8
  go_wp2_with fail
  refine (HZ.out _).mono ?_
  rintro e w2 ⟨rfl, hb2⟩
  have hL2 := hL.call hb2
  have hB2 : Below w.heap.size w w2 := bwS hBB (Nat.le_refl _) hb2
  clear u0 u1 u2 u3 u4 u5 u6 u7 hL hBB hb2
  obtain ⟨v0, v1, _, _, _, _, _, _⟩ := hL2.c8
  by_cases hz : z < q0
  · have HG2 := Lib.hid (HG.out.trans (if_pos hz))
    go_wp2
    go_ret
    exact ⟨ret_int HG2.out.symm, hB2⟩
  · have HG2 := Lib.hid (HG.out.trans (if_neg hz))
    go_wp2_with fail
    refine (HR.out _).mono ?_
    rintro e w3 ⟨rfl, hb3⟩
    have hB3 : Below w.heap.size w w3 := bwS hB2 (Nat.le_refl _) hb3
    go_wp2_with fail
    refine (high_any _ _ _).mono ?_
    rintro e w4 ⟨rfl, hb4⟩
    have hB4 : Below w.heap.size w w4 := bwS hB3 (Nat.le_refl _) hb4
    clear hb3 hb4
    go_wp2
    go_ret
    exact ⟨ret_int HG2.out.symm, hB4⟩
end Go.Proofs.YtdbiijldincoiaaGreat

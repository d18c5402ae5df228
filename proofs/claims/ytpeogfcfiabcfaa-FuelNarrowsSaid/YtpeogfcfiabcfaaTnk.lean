/-
  Tanks (package fuel): their checks, exact for any tank; what is in a valid one at a height.
-/
import Derived.Test.YtpeogfcfiabcfaaTail
import Derived.Test.YtpeogfcfiabcfaaEl
set_option linter.unusedVariables false
set_option linter.unusedSimpArgs false
namespace Go.Proofs.Ytpeogfcfiabcfaa
open Go.RowKit

def eTk (H L : Nat → Int) (i : Nat) : Int := orE (eN (H i) 0 100000) (orE (eN (L i) 0 1000000000) (orE (eO (i == 0 || decide (H (i - 1) < H i))) (eO (decide (L (i - 1) ≤ L i)))))
def eTk4 (h l : Int) (o1 o2 : Bool) : Int := orE (eN h 0 100000) (orE (eN l 0 1000000000) (orE (eO o1) (eO o2)))
theorem first_tk (b cap : Nat) (h l : Int) (o1 o2 : Bool) (w : World) (h0 : w.cell? ⟨b, 0, none⟩ = some (.int .i64 (eN h 0 100000))) (h1 : w.cell? ⟨b, 1, none⟩ = some (.int .i64 (eN l 0 1000000000))) (h2 : w.cell? ⟨b, 2, none⟩ = some (.int .i64 (eO o1))) (h3 : w.cell? ⟨b, 3, none⟩ = some (.int .i64 (eO o2))) :
    Calls Try.prog 77 #[.slice (some ⟨b, 0, none⟩) 4 cap] w fun e w' => e = .returned (.int .i64 (eTk4 h l o1 o2)) ∧ w = w' := first_four b cap _ _ _ _ w h0 h1 h2 h3
set_option maxRecDepth 100000 in
set_option maxHeartbeats 2000000 in
theorem tank_one (H L : Nat → Int) (bp bH oH cH bL oL cL n : Nat) (i : Nat) (hi : i < n) (hn : n ≤ 9223372036854775807) (w : World) (hv : w.cell? ⟨bp, 0, none⟩ = some (.slice (some ⟨bH, oH, none⟩) n cH)) (hv2 : w.cell? ⟨bp, 1, none⟩ = some (.slice (some ⟨bL, oL, none⟩) n cL)) (hH : AtC w bH oH n 1 (inC H)) (hL : AtC w bL oL n 1 (inC L)) :
    Calls Try.prog 112 #[.int .i64 i, .int .i64 (H i), .pointer (some ⟨bp, 0, none⟩)] w fun e w' => e = .returned (.int .i64 (eTk H L i)) ∧ Below w.heap.size w w' := by
  have zt := World.block_lt_of_cell? _ _ hv
  have a1 := hL.c1 hi rfl
  obtain ⟨x, hx⟩ : ∃ x, H i = x := ⟨_, rfl⟩
  obtain ⟨y, hy⟩ : ∃ y, L i = y := ⟨_, rfl⟩
  have zL := World.block_lt_of_cell? _ _ a1
  by_cases h0 : i = 0
  · subst h0
    have hE : eTk H L 0 = eTk4 (H 0) (L 0) true true := by unfold eTk eTk4; simp
    rw [hE, hx, hy]
    rw [hy] at a1
    simp only [Nat.add_zero] at a1
    clear hE hx hy hH hL
    have q0 : max (-1 : Int) 0 = 0 := by decide
    go_enter Try.func112, Try.ntmps112
    go_wp2_with fail
    refine wp_region_held_drew (S := (fun w' => w'.cell? ⟨bp, 0, none⟩ = some (.slice (some ⟨bH, oH, none⟩) n cH) ∧ w'.cell? ⟨bp, 1, none⟩ = some (.slice (some ⟨bL, oL, none⟩) n cL) ∧ w'.cell? ⟨bL, oL, none⟩ = some (.int .i64 y) ∧ Below w.heap.size w w')) (by kernel_rfl) ?_ (fun hH => ?_)
    · (try dsimp only); (go_split_ands; refine ⟨?_, ?_, ?_, ?_⟩ <;> (first | assumption | (go_simp; done) | (go_keep; done) | (refine cell_later hb ?_; first | assumption | (go_keep; done)) | (refine bwS ?_ ?_ hb; (first | assumption | ((repeat (first | exact Below.refl _ _ | assumption | refine Below.drew ?_ | refine Below.drewN ?_ _ | refine blT ?_ | refine blU ?_)); done)); (first | exact Nat.le_refl _ | (simp; done) | (simp; omega))) | ((repeat (first | exact Below.refl _ _ | assumption | refine Below.drew ?_ | refine Below.drewN ?_ _ | refine blT ?_ | refine blU ?_)); done)))
    refine tkY 0 (some 10) ?_ ?_ ?_
    rotate_left
    · intro w _; go_simp; (try with_reducible rfl)
    (try simp only [cq])
    refine tkY 2 (some 12) ?_ ?_ ?_
    rotate_left
    · intro w hS0; go_simp; (try with_reducible rfl)
    (try simp only [cq])
    refine tkY 3 (some 13) ?_ ?_ ?_
    rotate_left
    · intro w hS0; go_simp; (try with_reducible rfl)
    (try simp only [cq])
    refine tkY 4 (some 14) ?_ ?_ ?_
    rotate_left
    · intro w _; go_simp; (try with_reducible rfl)
    (try simp only [cq])
    refine tkY 5 (some 15) ?_ ?_ ?_
    rotate_left
    · intro w hS0; go_simp; (try with_reducible rfl)
    (try simp only [cq])
    refine tkY 6 (some 16) ?_ ?_ ?_
    rotate_left
    · intro w hS0; go_simp; (try with_reducible rfl)
    (try simp only [cq])
    refine tkY 8 (some 18) ?_ ?_ ?_
    rotate_left
    · intro w _; go_simp; (try with_reducible rfl)
    (try simp only [cq])
    refine tkY 9 (some 19) ?_ ?_ ?_
    rotate_left
    · intro w _; go_simp; (try with_reducible rfl)
    (try simp only [cq])
    refine tkY 20 (some 30) ?_ ?_ ?_
    rotate_left
    · intro w hS0; go_simp; (try with_reducible rfl)
    (try simp only [cq])
    refine tkY 21 (some 31) ?_ ?_ ?_
    rotate_left
    · intro w hS0; go_simp; (try with_reducible rfl)
    (try simp only [cq])
    refine tkY 22 (some 32) ?_ ?_ ?_
    rotate_left
    · intro w _; go_simp; (try with_reducible rfl)
    (try simp only [cq])
    refine tkY 23 (some 33) ?_ ?_ ?_
    rotate_left
    · intro w hS0; go_simp; (try with_reducible rfl)
    (try simp only [cq])
    refine tkY 24 (some 34) ?_ ?_ ?_
    rotate_left
    · intro w hS0; go_simp; (try with_reducible rfl)
    (try simp only [cq])
    refine tkY 25 (some 35) ?_ ?_ ?_
    rotate_left
    · intro w hS0; go_simp; (try with_reducible rfl)
    (try simp only [cq])
    refine tkY 26 (some 36) ?_ ?_ ?_
    rotate_left
    · intro w hS0; go_simp; (try with_reducible rfl)
    (try simp only [cq])
    refine tkY 27 (some 37) ?_ ?_ ?_
    rotate_left
    · intro w _; go_simp; (try with_reducible rfl)
    (try simp only [cq])
    refine tkY 28 (some 38) ?_ ?_ ?_
    rotate_left
    · intro w hS0; go_simp; (try with_reducible rfl)
    (try simp only [cq])
    refine tkY 29 (some 39) ?_ ?_ ?_
    rotate_left
    · intro w hS0; go_simp; (try with_reducible rfl)
    (try simp only [cq])
    refine tkY 30 (some 40) ?_ ?_ ?_
    rotate_left
    · intro w _; go_simp; (try with_reducible rfl)
    (try simp only [cq])
    refine wpAnyH_ready (rs := [1]) (by kernel_rfl) (by simp) ?_
    refine arc1 (some 11) fun K hK => ?_
    go_simp
    (refine (number_any _ _ _ _).mono ?_; rintro e w' ⟨rfl, rfl⟩)
    refine hK.out _ _ ?_ (fun hH => ?_)
    · (go_split_ands; refine ⟨?_, ?_, ?_, ?_⟩ <;> (first | assumption | (go_simp; done) | (go_keep; done) | (refine cell_later hb ?_; first | assumption | (go_keep; done)) | (refine bwS ?_ ?_ hb; (first | assumption | ((repeat (first | exact Below.refl _ _ | assumption | refine Below.drew ?_ | refine Below.drewN ?_ _ | refine blT ?_ | refine blU ?_)); done)); (first | exact Nat.le_refl _ | (simp; done) | (simp; omega))) | ((repeat (first | exact Below.refl _ _ | assumption | refine Below.drew ?_ | refine Below.drewN ?_ _ | refine blT ?_ | refine blU ?_)); done)))
    clear hK K
    (try simp only [cq])
    refine wpAnyH_ready (rs := [7]) (by kernel_rfl) (by simp) ?_
    refine arc1 (some 17) fun K hK => ?_
    go_simp
    (refine (number_any _ _ _ _).mono ?_; rintro e w' ⟨rfl, rfl⟩)
    refine hK.out _ _ ?_ (fun hH => ?_)
    · (go_split_ands; refine ⟨?_, ?_, ?_, ?_⟩ <;> (first | assumption | (go_simp; done) | (go_keep; done) | (refine cell_later hb ?_; first | assumption | (go_keep; done)) | (refine bwS ?_ ?_ hb; (first | assumption | ((repeat (first | exact Below.refl _ _ | assumption | refine Below.drew ?_ | refine Below.drewN ?_ _ | refine blT ?_ | refine blU ?_)); done)); (first | exact Nat.le_refl _ | (simp; done) | (simp; omega))) | ((repeat (first | exact Below.refl _ _ | assumption | refine Below.drew ?_ | refine Below.drewN ?_ _ | refine blT ?_ | refine blU ?_)); done)))
    clear hK K
    (try simp only [cq])
    refine tkY 10 (some 20) ?_ ?_ ?_
    rotate_left
    · intro w _; go_simp; (try with_reducible rfl)
    (try simp only [cq])
    refine tkN 11 (some 21) ?_
    (try simp only [cq])
    refine tkN 12 (some 22) ?_
    (try simp only [cq])
    refine tkN 13 (some 23) ?_
    (try simp only [cq])
    refine tkN 14 (some 24) ?_
    (try simp only [cq])
    refine tkN 15 (some 25) ?_
    (try simp only [cq])
    refine tkN 16 (some 26) ?_
    (try simp only [cq])
    refine tkN 17 (some 27) ?_
    (try simp only [cq])
    refine tkY 18 (some 28) ?_ ?_ ?_
    rotate_left
    · intro w _; go_simp; (try with_reducible rfl)
    (try simp only [cq])
    refine wpAnyH_ready (rs := [19]) (by kernel_rfl) (by simp) ?_
    refine arc1 (some 29) fun K hK => ?_
    go_simp
    (refine (order_any true _).mono ?_; rintro e w' ⟨rfl, rfl⟩)
    refine hK.out _ _ ?_ (fun hH => ?_)
    · (go_split_ands; refine ⟨?_, ?_, ?_, ?_⟩ <;> (first | assumption | (go_simp; done) | (go_keep; done) | (refine cell_later hb ?_; first | assumption | (go_keep; done)) | (refine bwS ?_ ?_ hb; (first | assumption | ((repeat (first | exact Below.refl _ _ | assumption | refine Below.drew ?_ | refine Below.drewN ?_ _ | refine blT ?_ | refine blU ?_)); done)); (first | exact Nat.le_refl _ | (simp; done) | (simp; omega))) | ((repeat (first | exact Below.refl _ _ | assumption | refine Below.drew ?_ | refine Below.drewN ?_ _ | refine blT ?_ | refine blU ?_)); done)))
    clear hK K
    (try simp only [cq])
    refine wpAnyH_ready (rs := [31]) (by kernel_rfl) (by simp) ?_
    refine arc1 (some 41) fun K hK => ?_
    go_simp
    (refine (order_any _ _).mono ?_; rintro e w' ⟨rfl, rfl⟩)
    refine hK.out _ _ ?_ (fun hH => ?_)
    · (go_split_ands; refine ⟨?_, ?_, ?_, ?_⟩ <;> (first | assumption | (go_simp; done) | (go_keep; done) | (refine cell_later hb ?_; first | assumption | (go_keep; done)) | (refine bwS ?_ ?_ hb; (first | assumption | ((repeat (first | exact Below.refl _ _ | assumption | refine Below.drew ?_ | refine Below.drewN ?_ _ | refine blT ?_ | refine blU ?_)); done)); (first | exact Nat.le_refl _ | (simp; done) | (simp; omega))) | ((repeat (first | exact Below.refl _ _ | assumption | refine Below.drew ?_ | refine Below.drewN ?_ _ | refine blT ?_ | refine blU ?_)); done)))
    clear hK K
    (try simp only [cq])
    refine wpAnyH_ready (rs := [32]) (by kernel_rfl) (by simp) ?_
    refine arc1 (some 42) fun K hK => ?_
    go_simp
    refine hK.out _ _ ?_ (fun hH => ?_)
    · (go_split_ands; refine ⟨?_, ?_, ?_, ?_⟩ <;> (first | assumption | (go_simp; done) | (go_keep; done) | (refine cell_later hb ?_; first | assumption | (go_keep; done)) | (refine bwS ?_ ?_ hb; (first | assumption | ((repeat (first | exact Below.refl _ _ | assumption | refine Below.drew ?_ | refine Below.drewN ?_ _ | refine blT ?_ | refine blU ?_)); done)); (first | exact Nat.le_refl _ | (simp; done) | (simp; omega))) | ((repeat (first | exact Below.refl _ _ | assumption | refine Below.drew ?_ | refine Below.drewN ?_ _ | refine blT ?_ | refine blU ?_)); done)))
    clear hK K
    (try simp only [cq])
    refine wpAnyH_ready (rs := [33]) (by kernel_rfl) (by simp) ?_
    refine arc1 (some 43) fun K hK => ?_
    go_simp
    (refine (first_tk _ _ x y true true _ (by first | (simp; done) | (go_simp; done) | (go_keep; done)) (by first | (simp; done) | (go_simp; done) | (go_keep; done)) (by first | (simp; done) | (go_simp; done) | (go_keep; done)) (by first | (simp; done) | (go_simp; done) | (go_keep; done))).mono ?_; rintro e w' ⟨rfl, rfl⟩)
    refine hK.out _ _ ?_ (fun hH => ?_)
    · (go_split_ands; refine ⟨?_, ?_, ?_, ?_⟩ <;> (first | assumption | (go_simp; done) | (go_keep; done) | (refine cell_later hb ?_; first | assumption | (go_keep; done)) | (refine bwS ?_ ?_ hb; (first | assumption | ((repeat (first | exact Below.refl _ _ | assumption | refine Below.drew ?_ | refine Below.drewN ?_ _ | refine blT ?_ | refine blU ?_)); done)); (first | exact Nat.le_refl _ | (simp; done) | (simp; omega))) | ((repeat (first | exact Below.refl _ _ | assumption | refine Below.drew ?_ | refine Below.drewN ?_ _ | refine blT ?_ | refine blU ?_)); done)))
    clear hK K
    (try simp only [cq])
    refine tkY 34 (some 5) ?_ ?_ ?_
    rotate_left
    · intro w _; go_simp; (try with_reducible rfl)
    (try simp only [cq])
    refine wpAnyH_done (by kernel_rfl) ?_ _
    (try dsimp only [Act.put])
    (try simp only [cq])
    have hBB : Below w.heap.size w _ := hH.2.2.2
    clear hH
    go_wp2
    go_ret
    exact ⟨rfl, hBB⟩
  · obtain ⟨j, rfl⟩ : ∃ j, i = j + 1 := ⟨i - 1, by omega⟩
    obtain ⟨u, hu⟩ : ∃ y, H j = y := ⟨_, rfl⟩
    obtain ⟨v, hv3⟩ : ∃ y, L j = y := ⟨_, rfl⟩
    have hE : eTk H L (j + 1) = eTk4 x y (decide (u < x)) (decide (v ≤ y)) := by
      unfold eTk eTk4
      rw [hx, hy, Nat.add_sub_cancel, hu, hv3]
      have : ((j + 1 : Nat) == 0) = false := by simp
      rw [this, Bool.false_or]
    have p1 := hH.c1 (i := j) (by omega) rfl
    have p2 := hL.c1 (i := j) (by omega) rfl
    rw [hu] at p1
    rw [hv3] at p2
    rw [hE, hx]
    rw [hy] at a1
    clear hE hx hy hu hv3 hH hL
    have zb := World.block_lt_of_cell? _ _ p1
    have q0 : ((j : Int) + 1 == 0) = false := by simp; omega
    have q2 : max (j : Int) 0 = j := by omega
    have q3 : j < n := by omega
    have q4 : (j : Int) < n := by omega
    have q5 : (j : Int) + 1 < n := by omega
    have q6 : (0 : Int) ≤ (j : Int) + 1 := by omega
    clear h0
    go_enter Try.func112, Try.ntmps112
    go_wp2_with fail
    refine wp_region_held_drew (S := (fun w' => w'.cell? ⟨bp, 0, none⟩ = some (.slice (some ⟨bH, oH, none⟩) n cH) ∧ w'.cell? ⟨bp, 1, none⟩ = some (.slice (some ⟨bL, oL, none⟩) n cL) ∧ w'.cell? ⟨bL, oL + (j + 1), none⟩ = some (.int .i64 y) ∧ w'.cell? ⟨bH, oH + j, none⟩ = some (.int .i64 u) ∧ w'.cell? ⟨bL, oL + j, none⟩ = some (.int .i64 v) ∧ Below w.heap.size w w')) (by kernel_rfl) ?_ (fun hH => ?_)
    · (try dsimp only); (go_split_ands; refine ⟨?_, ?_, ?_, ?_, ?_, ?_⟩ <;> (first | assumption | (go_simp; done) | (go_keep; done) | (refine cell_later hb ?_; first | assumption | (go_keep; done)) | (refine bwS ?_ ?_ hb; (first | assumption | ((repeat (first | exact Below.refl _ _ | assumption | refine Below.drew ?_ | refine Below.drewN ?_ _ | refine blT ?_ | refine blU ?_)); done)); (first | exact Nat.le_refl _ | (simp; done) | (simp; omega))) | ((repeat (first | exact Below.refl _ _ | assumption | refine Below.drew ?_ | refine Below.drewN ?_ _ | refine blT ?_ | refine blU ?_)); done)))
    refine tkY 0 (some 10) ?_ ?_ ?_
    rotate_left
    · intro w _; go_simp; (try with_reducible rfl)
    (try simp only [cq])
    refine tkY 2 (some 12) ?_ ?_ ?_
    rotate_left
    · intro w hS0; go_simp; (try with_reducible rfl)
    (try simp only [cq])
    refine tkY 3 (some 13) ?_ ?_ ?_
    rotate_left
    · intro w hS0; go_simp; (try with_reducible rfl)
    (try simp only [cq])
    refine tkY 4 (some 14) ?_ ?_ ?_
    rotate_left
    · intro w _; go_simp; (try with_reducible rfl)
    (try simp only [cq])
    refine tkY 5 (some 15) ?_ ?_ ?_
    rotate_left
    · intro w hS0; go_simp; (try with_reducible rfl)
    (try simp only [cq])
    refine tkY 6 (some 16) ?_ ?_ ?_
    rotate_left
    · intro w hS0; go_simp; (try with_reducible rfl)
    (try simp only [cq])
    refine tkY 8 (some 18) ?_ ?_ ?_
    rotate_left
    · intro w _; go_simp; (try with_reducible rfl)
    (try simp only [cq])
    refine tkY 9 (some 19) ?_ ?_ ?_
    rotate_left
    · intro w _; go_simp; (try with_reducible rfl)
    (try simp only [cq])
    refine tkY 20 (some 30) ?_ ?_ ?_
    rotate_left
    · intro w hS0; go_simp; (try with_reducible rfl)
    (try simp only [cq])
    refine tkY 21 (some 31) ?_ ?_ ?_
    rotate_left
    · intro w hS0; go_simp; (try with_reducible rfl)
    (try simp only [cq])
    refine tkY 22 (some 32) ?_ ?_ ?_
    rotate_left
    · intro w _; go_simp; (try with_reducible rfl)
    (try simp only [cq])
    refine tkY 23 (some 33) ?_ ?_ ?_
    rotate_left
    · intro w hS0; go_simp; (try with_reducible rfl)
    (try simp only [cq])
    refine tkY 24 (some 34) ?_ ?_ ?_
    rotate_left
    · intro w hS0; go_simp; (try with_reducible rfl)
    (try simp only [cq])
    refine tkY 25 (some 35) ?_ ?_ ?_
    rotate_left
    · intro w hS0; go_simp; (try with_reducible rfl)
    (try simp only [cq])
    refine tkY 26 (some 36) ?_ ?_ ?_
    rotate_left
    · intro w hS0; go_simp; (try with_reducible rfl)
    (try simp only [cq])
    refine tkY 27 (some 37) ?_ ?_ ?_
    rotate_left
    · intro w _; go_simp; (try with_reducible rfl)
    (try simp only [cq])
    refine tkY 28 (some 38) ?_ ?_ ?_
    rotate_left
    · intro w hS0; go_simp; (try with_reducible rfl)
    (try simp only [cq])
    refine tkY 29 (some 39) ?_ ?_ ?_
    rotate_left
    · intro w hS0; go_simp; (try with_reducible rfl)
    (try simp only [cq])
    refine tkY 30 (some 40) ?_ ?_ ?_
    rotate_left
    · intro w _; go_simp; (try with_reducible rfl)
    (try simp only [cq])
    refine wpAnyH_ready (rs := [1]) (by kernel_rfl) (by simp) ?_
    refine arc1 (some 11) fun K hK => ?_
    go_simp
    (refine (number_any _ _ _ _).mono ?_; rintro e w' ⟨rfl, rfl⟩)
    refine hK.out _ _ ?_ (fun hH => ?_)
    · (go_split_ands; refine ⟨?_, ?_, ?_, ?_, ?_, ?_⟩ <;> (first | assumption | (go_simp; done) | (go_keep; done) | (refine cell_later hb ?_; first | assumption | (go_keep; done)) | (refine bwS ?_ ?_ hb; (first | assumption | ((repeat (first | exact Below.refl _ _ | assumption | refine Below.drew ?_ | refine Below.drewN ?_ _ | refine blT ?_ | refine blU ?_)); done)); (first | exact Nat.le_refl _ | (simp; done) | (simp; omega))) | ((repeat (first | exact Below.refl _ _ | assumption | refine Below.drew ?_ | refine Below.drewN ?_ _ | refine blT ?_ | refine blU ?_)); done)))
    clear hK K
    (try simp only [cq])
    refine wpAnyH_ready (rs := [7]) (by kernel_rfl) (by simp) ?_
    refine arc1 (some 17) fun K hK => ?_
    go_simp
    (refine (number_any _ _ _ _).mono ?_; rintro e w' ⟨rfl, rfl⟩)
    refine hK.out _ _ ?_ (fun hH => ?_)
    · (go_split_ands; refine ⟨?_, ?_, ?_, ?_, ?_, ?_⟩ <;> (first | assumption | (go_simp; done) | (go_keep; done) | (refine cell_later hb ?_; first | assumption | (go_keep; done)) | (refine bwS ?_ ?_ hb; (first | assumption | ((repeat (first | exact Below.refl _ _ | assumption | refine Below.drew ?_ | refine Below.drewN ?_ _ | refine blT ?_ | refine blU ?_)); done)); (first | exact Nat.le_refl _ | (simp; done) | (simp; omega))) | ((repeat (first | exact Below.refl _ _ | assumption | refine Below.drew ?_ | refine Below.drewN ?_ _ | refine blT ?_ | refine blU ?_)); done)))
    clear hK K
    (try simp only [cq])
    refine tkY 10 (some 20) ?_ ?_ ?_
    rotate_left
    · intro w _; go_simp; (try with_reducible rfl)
    (try simp only [cq])
    refine tkY 11 (some 21) ?_ ?_ ?_
    rotate_left
    · intro w _; go_simp; (try with_reducible rfl)
    (try simp only [cq])
    refine tkY 12 (some 22) ?_ ?_ ?_
    rotate_left
    · intro w hS0; go_simp; (try with_reducible rfl)
    (try simp only [cq])
    refine tkY 13 (some 23) ?_ ?_ ?_
    rotate_left
    · intro w hS0; go_simp; (try with_reducible rfl)
    (try simp only [cq])
    refine tkY 14 (some 24) ?_ ?_ ?_
    rotate_left
    · intro w _; go_simp; (try with_reducible rfl)
    (try simp only [cq])
    refine tkY 15 (some 25) ?_ ?_ ?_
    rotate_left
    · intro w hS0; go_simp; (try with_reducible rfl)
    (try simp only [cq])
    refine tkY 16 (some 26) ?_ ?_ ?_
    rotate_left
    · intro w hS0; go_simp; (try with_reducible rfl)
    (try simp only [cq])
    refine tkY 17 (some 27) ?_ ?_ ?_
    rotate_left
    · intro w _; go_simp; (try with_reducible rfl)
    (try simp only [cq])
    refine tkY 18 (some 28) ?_ ?_ ?_
    rotate_left
    · intro w _; go_simp; (try with_reducible rfl)
    (try simp only [cq])
    refine wpAnyH_ready (rs := [19]) (by kernel_rfl) (by simp) ?_
    refine arc1 (some 29) fun K hK => ?_
    go_simp
    (refine (order_any _ _).mono ?_; rintro e w' ⟨rfl, rfl⟩)
    refine hK.out _ _ ?_ (fun hH => ?_)
    · (go_split_ands; refine ⟨?_, ?_, ?_, ?_, ?_, ?_⟩ <;> (first | assumption | (go_simp; done) | (go_keep; done) | (refine cell_later hb ?_; first | assumption | (go_keep; done)) | (refine bwS ?_ ?_ hb; (first | assumption | ((repeat (first | exact Below.refl _ _ | assumption | refine Below.drew ?_ | refine Below.drewN ?_ _ | refine blT ?_ | refine blU ?_)); done)); (first | exact Nat.le_refl _ | (simp; done) | (simp; omega))) | ((repeat (first | exact Below.refl _ _ | assumption | refine Below.drew ?_ | refine Below.drewN ?_ _ | refine blT ?_ | refine blU ?_)); done)))
    clear hK K
    (try simp only [cq])
    refine wpAnyH_ready (rs := [31]) (by kernel_rfl) (by simp) ?_
    refine arc1 (some 41) fun K hK => ?_
    go_simp
    (refine (order_any _ _).mono ?_; rintro e w' ⟨rfl, rfl⟩)
    refine hK.out _ _ ?_ (fun hH => ?_)
    · (go_split_ands; refine ⟨?_, ?_, ?_, ?_, ?_, ?_⟩ <;> (first | assumption | (go_simp; done) | (go_keep; done) | (refine cell_later hb ?_; first | assumption | (go_keep; done)) | (refine bwS ?_ ?_ hb; (first | assumption | ((repeat (first | exact Below.refl _ _ | assumption | refine Below.drew ?_ | refine Below.drewN ?_ _ | refine blT ?_ | refine blU ?_)); done)); (first | exact Nat.le_refl _ | (simp; done) | (simp; omega))) | ((repeat (first | exact Below.refl _ _ | assumption | refine Below.drew ?_ | refine Below.drewN ?_ _ | refine blT ?_ | refine blU ?_)); done)))
    clear hK K
    (try simp only [cq])
    refine wpAnyH_ready (rs := [32]) (by kernel_rfl) (by simp) ?_
    refine arc1 (some 42) fun K hK => ?_
    go_simp
    refine hK.out _ _ ?_ (fun hH => ?_)
    · (go_split_ands; refine ⟨?_, ?_, ?_, ?_, ?_, ?_⟩ <;> (first | assumption | (go_simp; done) | (go_keep; done) | (refine cell_later hb ?_; first | assumption | (go_keep; done)) | (refine bwS ?_ ?_ hb; (first | assumption | ((repeat (first | exact Below.refl _ _ | assumption | refine Below.drew ?_ | refine Below.drewN ?_ _ | refine blT ?_ | refine blU ?_)); done)); (first | exact Nat.le_refl _ | (simp; done) | (simp; omega))) | ((repeat (first | exact Below.refl _ _ | assumption | refine Below.drew ?_ | refine Below.drewN ?_ _ | refine blT ?_ | refine blU ?_)); done)))
    clear hK K
    (try simp only [cq])
    refine wpAnyH_ready (rs := [33]) (by kernel_rfl) (by simp) ?_
    refine arc1 (some 43) fun K hK => ?_
    go_simp
    (refine (first_tk _ _ x y (decide (u < x)) (decide (v ≤ y)) _ (by first | (simp; done) | (go_simp; done) | (go_keep; done)) (by first | (simp; done) | (go_simp; done) | (go_keep; done)) (by first | (simp; done) | (go_simp; done) | (go_keep; done)) (by first | (simp; done) | (go_simp; done) | (go_keep; done))).mono ?_; rintro e w' ⟨rfl, rfl⟩)
    refine hK.out _ _ ?_ (fun hH => ?_)
    · (go_split_ands; refine ⟨?_, ?_, ?_, ?_, ?_, ?_⟩ <;> (first | assumption | (go_simp; done) | (go_keep; done) | (refine cell_later hb ?_; first | assumption | (go_keep; done)) | (refine bwS ?_ ?_ hb; (first | assumption | ((repeat (first | exact Below.refl _ _ | assumption | refine Below.drew ?_ | refine Below.drewN ?_ _ | refine blT ?_ | refine blU ?_)); done)); (first | exact Nat.le_refl _ | (simp; done) | (simp; omega))) | ((repeat (first | exact Below.refl _ _ | assumption | refine Below.drew ?_ | refine Below.drewN ?_ _ | refine blT ?_ | refine blU ?_)); done)))
    clear hK K
    (try simp only [cq])
    refine tkY 34 (some 5) ?_ ?_ ?_
    rotate_left
    · intro w _; go_simp; (try with_reducible rfl)
    (try simp only [cq])
    refine wpAnyH_done (by kernel_rfl) ?_ _
    (try dsimp only [Act.put])
    (try simp only [cq])
    have hBB : Below w.heap.size w _ := hH.2.2.2.2.2
    clear hH
    go_wp2
    go_ret
    exact ⟨rfl, hBB⟩
end Go.Proofs.Ytpeogfcfiabcfaa

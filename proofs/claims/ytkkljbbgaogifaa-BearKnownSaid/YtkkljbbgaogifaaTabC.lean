/-
  The checks of a table (package bear), exact for any list of pairs.
-/
import Derived.Test.YtkkljbbgaogifaaTail
import Derived.Test.YtkkljbbgaogifaaUp
set_option linter.unusedVariables false
set_option linter.unusedSimpArgs false
namespace Go.Proofs.Ytkkljbbgaogifaa
open Go.RowKit

def eT0 (f p : Int) : Int := orE (eN f 0 10000) (orE (eO (f == 0)) (orE (eN p 0 1000000) (eF (p == 1000000))))
def eT1 (f p g q : Int) : Int := orE (eN f 0 10000) (orE (eO (decide (g < f))) (orE (eN p 0 1000000) (eO (decide (p ≤ q)))))
def tabErr (F P : Nat → Int) (i : Nat) : Int := if i = 0 then eT0 (F 0) (P 0) else eT1 (F i) (P i) (F (i - 1)) (P (i - 1))
def eTs (n : Nat) (F P : Nat → Int) : Int := if 20 < n then 8 else firstNZ (tabErr F P) 0 n
def eTab (n : Nat) (F P : Nat → Int) : Int := orE (eSm n) (eTs n F P)

theorem first_t0 (b cap : Nat) (f p : Int) (w : World) (h0 : w.cell? ⟨b, 0, none⟩ = some (.int .i64 (eN f 0 10000))) (h1 : w.cell? ⟨b, 1, none⟩ = some (.int .i64 (eO (f == 0)))) (h2 : w.cell? ⟨b, 2, none⟩ = some (.int .i64 (eN p 0 1000000))) (h3 : w.cell? ⟨b, 3, none⟩ = some (.int .i64 (eF (p == 1000000)))) :
    Calls Try.prog 74 #[.slice (some ⟨b, 0, none⟩) 4 cap] w fun e w' => e = .returned (.int .i64 (eT0 f p)) ∧ w = w' := first_four b cap _ _ _ _ w h0 h1 h2 h3
theorem first_t1 (b cap : Nat) (f p g q : Int) (w : World) (h0 : w.cell? ⟨b, 0, none⟩ = some (.int .i64 (eN f 0 10000))) (h1 : w.cell? ⟨b, 1, none⟩ = some (.int .i64 (eO (decide (g < f))))) (h2 : w.cell? ⟨b, 2, none⟩ = some (.int .i64 (eN p 0 1000000))) (h3 : w.cell? ⟨b, 3, none⟩ = some (.int .i64 (eO (decide (p ≤ q))))) :
    Calls Try.prog 74 #[.slice (some ⟨b, 0, none⟩) 4 cap] w fun e w' => e = .returned (.int .i64 (eT1 f p g q)) ∧ w = w' := first_four b cap _ _ _ _ w h0 h1 h2 h3

set_option maxHeartbeats 1000000 in
theorem tfirst_any (f p : Int) (w : World) :
    Calls Try.prog 118 #[.agg #[.int .i64 f, .int .i64 p]] w fun e w' => e = .returned (.int .i64 (eT0 f p)) ∧ Below w.heap.size w w' := by
  go_enter Try.func118, Try.ntmps118
  go_wp2_with fail
  refine wp_region_held_drew (S := (fun w' => w'.cell? ⟨w.heap.size, 0, none⟩ = some (.int .i64 f) ∧ w'.cell? ⟨w.heap.size, 1, none⟩ = some (.int .i64 p) ∧ Below w.heap.size w w')) (by kernel_rfl) ?_ (fun hH => ?_)
  · (try dsimp only); (go_split_ands; refine ⟨?_, ?_, ?_⟩ <;> (first | assumption | (go_simp; done) | (go_keep; done) | (refine cell_later hb ?_; first | assumption | (go_keep; done)) | (refine bwS ?_ ?_ hb; (first | assumption | ((repeat (first | exact Below.refl _ _ | assumption | refine Below.drew ?_ | refine Below.drewN ?_ _ | refine blT ?_ | refine blU ?_)); done)); (first | exact Nat.le_refl _ | (simp; done) | (simp; omega))) | ((repeat (first | exact Below.refl _ _ | assumption | refine Below.drew ?_ | refine Below.drewN ?_ _ | refine blT ?_ | refine blU ?_)); done)))
  refine tkY 0 (some 3) ?_ ?_ ?_
  rotate_left
  · intro w hS0; go_simp; (try with_reducible rfl)
  (try simp only [cq])
  refine tkY 1 (some 4) ?_ ?_ ?_
  rotate_left
  · intro w hS0; go_simp; (try with_reducible rfl)
  (try simp only [cq])
  refine tkY 3 (some 6) ?_ ?_ ?_
  rotate_left
  · intro w hS0; go_simp; (try with_reducible rfl)
  (try simp only [cq])
  refine tkY 4 (some 7) ?_ ?_ ?_
  rotate_left
  · intro w hS0; go_simp; (try with_reducible rfl)
  (try simp only [cq])
  refine tkY 5 (some 8) ?_ ?_ ?_
  rotate_left
  · intro w _; go_simp; (try with_reducible rfl)
  (try simp only [cq])
  refine tkY 7 (some 10) ?_ ?_ ?_
  rotate_left
  · intro w hS0; go_simp; (try with_reducible rfl)
  (try simp only [cq])
  refine tkY 8 (some 11) ?_ ?_ ?_
  rotate_left
  · intro w hS0; go_simp; (try with_reducible rfl)
  (try simp only [cq])
  refine tkY 10 (some 13) ?_ ?_ ?_
  rotate_left
  · intro w hS0; go_simp; (try with_reducible rfl)
  (try simp only [cq])
  refine tkY 11 (some 14) ?_ ?_ ?_
  rotate_left
  · intro w hS0; go_simp; (try with_reducible rfl)
  (try simp only [cq])
  refine tkY 12 (some 15) ?_ ?_ ?_
  rotate_left
  · intro w _; go_simp; (try with_reducible rfl)
  (try simp only [cq])
  refine wpAnyH_ready (rs := [2]) (by kernel_rfl) (by simp) ?_
  refine arc1 (some 5) fun K hK => ?_
  go_simp
  (refine (number_any _ _ _ _).mono ?_; rintro e w' ⟨rfl, rfl⟩)
  refine hK.out _ _ ?_ (fun hH => ?_)
  · (go_split_ands; refine ⟨?_, ?_, ?_⟩ <;> (first | assumption | (go_simp; done) | (go_keep; done) | (refine cell_later hb ?_; first | assumption | (go_keep; done)) | (refine bwS ?_ ?_ hb; (first | assumption | ((repeat (first | exact Below.refl _ _ | assumption | refine Below.drew ?_ | refine Below.drewN ?_ _ | refine blT ?_ | refine blU ?_)); done)); (first | exact Nat.le_refl _ | (simp; done) | (simp; omega))) | ((repeat (first | exact Below.refl _ _ | assumption | refine Below.drew ?_ | refine Below.drewN ?_ _ | refine blT ?_ | refine blU ?_)); done)))
  clear hK K
  (try simp only [cq])
  refine wpAnyH_ready (rs := [6]) (by kernel_rfl) (by simp) ?_
  refine arc1 (some 9) fun K hK => ?_
  go_simp
  (refine (order_any _ _).mono ?_; rintro e w' ⟨rfl, rfl⟩)
  refine hK.out _ _ ?_ (fun hH => ?_)
  · (go_split_ands; refine ⟨?_, ?_, ?_⟩ <;> (first | assumption | (go_simp; done) | (go_keep; done) | (refine cell_later hb ?_; first | assumption | (go_keep; done)) | (refine bwS ?_ ?_ hb; (first | assumption | ((repeat (first | exact Below.refl _ _ | assumption | refine Below.drew ?_ | refine Below.drewN ?_ _ | refine blT ?_ | refine blU ?_)); done)); (first | exact Nat.le_refl _ | (simp; done) | (simp; omega))) | ((repeat (first | exact Below.refl _ _ | assumption | refine Below.drew ?_ | refine Below.drewN ?_ _ | refine blT ?_ | refine blU ?_)); done)))
  clear hK K
  (try simp only [cq])
  refine wpAnyH_ready (rs := [9]) (by kernel_rfl) (by simp) ?_
  refine arc1 (some 12) fun K hK => ?_
  go_simp
  (refine (number_any _ _ _ _).mono ?_; rintro e w' ⟨rfl, rfl⟩)
  refine hK.out _ _ ?_ (fun hH => ?_)
  · (go_split_ands; refine ⟨?_, ?_, ?_⟩ <;> (first | assumption | (go_simp; done) | (go_keep; done) | (refine cell_later hb ?_; first | assumption | (go_keep; done)) | (refine bwS ?_ ?_ hb; (first | assumption | ((repeat (first | exact Below.refl _ _ | assumption | refine Below.drew ?_ | refine Below.drewN ?_ _ | refine blT ?_ | refine blU ?_)); done)); (first | exact Nat.le_refl _ | (simp; done) | (simp; omega))) | ((repeat (first | exact Below.refl _ _ | assumption | refine Below.drew ?_ | refine Below.drewN ?_ _ | refine blT ?_ | refine blU ?_)); done)))
  clear hK K
  (try simp only [cq])
  refine wpAnyH_ready (rs := [13]) (by kernel_rfl) (by simp) ?_
  refine arc1 (some 16) fun K hK => ?_
  go_simp
  (refine (form_any _ _).mono ?_; rintro e w' ⟨rfl, rfl⟩)
  refine hK.out _ _ ?_ (fun hH => ?_)
  · (go_split_ands; refine ⟨?_, ?_, ?_⟩ <;> (first | assumption | (go_simp; done) | (go_keep; done) | (refine cell_later hb ?_; first | assumption | (go_keep; done)) | (refine bwS ?_ ?_ hb; (first | assumption | ((repeat (first | exact Below.refl _ _ | assumption | refine Below.drew ?_ | refine Below.drewN ?_ _ | refine blT ?_ | refine blU ?_)); done)); (first | exact Nat.le_refl _ | (simp; done) | (simp; omega))) | ((repeat (first | exact Below.refl _ _ | assumption | refine Below.drew ?_ | refine Below.drewN ?_ _ | refine blT ?_ | refine blU ?_)); done)))
  clear hK K
  (try simp only [cq])
  refine wpAnyH_ready (rs := [14]) (by kernel_rfl) (by simp) ?_
  refine arc1 (some 17) fun K hK => ?_
  go_simp
  refine hK.out _ _ ?_ (fun hH => ?_)
  · (go_split_ands; refine ⟨?_, ?_, ?_⟩ <;> (first | assumption | (go_simp; done) | (go_keep; done) | (refine cell_later hb ?_; first | assumption | (go_keep; done)) | (refine bwS ?_ ?_ hb; (first | assumption | ((repeat (first | exact Below.refl _ _ | assumption | refine Below.drew ?_ | refine Below.drewN ?_ _ | refine blT ?_ | refine blU ?_)); done)); (first | exact Nat.le_refl _ | (simp; done) | (simp; omega))) | ((repeat (first | exact Below.refl _ _ | assumption | refine Below.drew ?_ | refine Below.drewN ?_ _ | refine blT ?_ | refine blU ?_)); done)))
  clear hK K
  (try simp only [cq])
  refine wpAnyH_ready (rs := [15]) (by kernel_rfl) (by simp) ?_
  refine arc1 (some 18) fun K hK => ?_
  go_simp
  (refine (first_t0 _ _ f p _ (by first | (simp; done) | (go_simp; done) | (go_keep; done)) (by first | (simp; done) | (go_simp; done) | (go_keep; done)) (by first | (simp; done) | (go_simp; done) | (go_keep; done)) (by first | (simp; done) | (go_simp; done) | (go_keep; done))).mono ?_; rintro e w' ⟨rfl, rfl⟩)
  refine hK.out _ _ ?_ (fun hH => ?_)
  · (go_split_ands; refine ⟨?_, ?_, ?_⟩ <;> (first | assumption | (go_simp; done) | (go_keep; done) | (refine cell_later hb ?_; first | assumption | (go_keep; done)) | (refine bwS ?_ ?_ hb; (first | assumption | ((repeat (first | exact Below.refl _ _ | assumption | refine Below.drew ?_ | refine Below.drewN ?_ _ | refine blT ?_ | refine blU ?_)); done)); (first | exact Nat.le_refl _ | (simp; done) | (simp; omega))) | ((repeat (first | exact Below.refl _ _ | assumption | refine Below.drew ?_ | refine Below.drewN ?_ _ | refine blT ?_ | refine blU ?_)); done)))
  clear hK K
  (try simp only [cq])
  refine tkY 16 (some 2) ?_ ?_ ?_
  rotate_left
  · intro w _; go_simp; (try with_reducible rfl)
  (try simp only [cq])
  refine wpAnyH_done (by kernel_rfl) ?_ _
  (try dsimp only [Act.put])
  (try simp only [cq])
  have hBB : Below w.heap.size w _ := hH.2.2
  clear hH
  go_wp2
  go_ret
  exact ⟨rfl, hBB⟩

set_option maxHeartbeats 1000000 in
theorem tnext_any (f p g q : Int) (w : World) :
    Calls Try.prog 119 #[.agg #[.int .i64 f, .int .i64 p], .agg #[.int .i64 g, .int .i64 q]] w fun e w' => e = .returned (.int .i64 (eT1 f p g q)) ∧ Below w.heap.size w w' := by
  go_enter Try.func119, Try.ntmps119
  go_wp2_with fail
  refine wp_region_held_drew (S := (fun w' => w'.cell? ⟨w.heap.size, 0, none⟩ = some (.int .i64 f) ∧ w'.cell? ⟨w.heap.size, 1, none⟩ = some (.int .i64 p) ∧ w'.cell? ⟨w.heap.size + 1, 0, none⟩ = some (.int .i64 g) ∧ w'.cell? ⟨w.heap.size + 1, 1, none⟩ = some (.int .i64 q) ∧ Below w.heap.size w w')) (by kernel_rfl) ?_ (fun hH => ?_)
  · (try dsimp only); (go_split_ands; refine ⟨?_, ?_, ?_, ?_, ?_⟩ <;> (first | assumption | (go_simp; done) | (go_keep; done) | (refine cell_later hb ?_; first | assumption | (go_keep; done)) | (refine bwS ?_ ?_ hb; (first | assumption | ((repeat (first | exact Below.refl _ _ | assumption | refine Below.drew ?_ | refine Below.drewN ?_ _ | refine blT ?_ | refine blU ?_)); done)); (first | exact Nat.le_refl _ | (simp; done) | (simp; omega))) | ((repeat (first | exact Below.refl _ _ | assumption | refine Below.drew ?_ | refine Below.drewN ?_ _ | refine blT ?_ | refine blU ?_)); done)))
  refine tkY 0 (some 5) ?_ ?_ ?_
  rotate_left
  · intro w hS0; go_simp; (try with_reducible rfl)
  (try simp only [cq])
  refine tkY 1 (some 6) ?_ ?_ ?_
  rotate_left
  · intro w hS0; go_simp; (try with_reducible rfl)
  (try simp only [cq])
  refine tkY 3 (some 8) ?_ ?_ ?_
  rotate_left
  · intro w hS0; go_simp; (try with_reducible rfl)
  (try simp only [cq])
  refine tkY 4 (some 9) ?_ ?_ ?_
  rotate_left
  · intro w hS0; go_simp; (try with_reducible rfl)
  (try simp only [cq])
  refine tkY 5 (some 10) ?_ ?_ ?_
  rotate_left
  · intro w hS0; go_simp; (try with_reducible rfl)
  (try simp only [cq])
  refine tkY 6 (some 11) ?_ ?_ ?_
  rotate_left
  · intro w hS0; go_simp; (try with_reducible rfl)
  (try simp only [cq])
  refine tkY 7 (some 12) ?_ ?_ ?_
  rotate_left
  · intro w _; go_simp; (try with_reducible rfl)
  (try simp only [cq])
  refine tkY 9 (some 14) ?_ ?_ ?_
  rotate_left
  · intro w hS0; go_simp; (try with_reducible rfl)
  (try simp only [cq])
  refine tkY 10 (some 15) ?_ ?_ ?_
  rotate_left
  · intro w hS0; go_simp; (try with_reducible rfl)
  (try simp only [cq])
  refine tkY 12 (some 17) ?_ ?_ ?_
  rotate_left
  · intro w hS0; go_simp; (try with_reducible rfl)
  (try simp only [cq])
  refine tkY 13 (some 18) ?_ ?_ ?_
  rotate_left
  · intro w hS0; go_simp; (try with_reducible rfl)
  (try simp only [cq])
  refine tkY 14 (some 19) ?_ ?_ ?_
  rotate_left
  · intro w hS0; go_simp; (try with_reducible rfl)
  (try simp only [cq])
  refine tkY 15 (some 20) ?_ ?_ ?_
  rotate_left
  · intro w hS0; go_simp; (try with_reducible rfl)
  (try simp only [cq])
  refine tkY 16 (some 21) ?_ ?_ ?_
  rotate_left
  · intro w _; go_simp; (try with_reducible rfl)
  (try simp only [cq])
  refine wpAnyH_ready (rs := [2]) (by kernel_rfl) (by simp) ?_
  refine arc1 (some 7) fun K hK => ?_
  go_simp
  (refine (number_any _ _ _ _).mono ?_; rintro e w' ⟨rfl, rfl⟩)
  refine hK.out _ _ ?_ (fun hH => ?_)
  · (go_split_ands; refine ⟨?_, ?_, ?_, ?_, ?_⟩ <;> (first | assumption | (go_simp; done) | (go_keep; done) | (refine cell_later hb ?_; first | assumption | (go_keep; done)) | (refine bwS ?_ ?_ hb; (first | assumption | ((repeat (first | exact Below.refl _ _ | assumption | refine Below.drew ?_ | refine Below.drewN ?_ _ | refine blT ?_ | refine blU ?_)); done)); (first | exact Nat.le_refl _ | (simp; done) | (simp; omega))) | ((repeat (first | exact Below.refl _ _ | assumption | refine Below.drew ?_ | refine Below.drewN ?_ _ | refine blT ?_ | refine blU ?_)); done)))
  clear hK K
  (try simp only [cq])
  refine wpAnyH_ready (rs := [8]) (by kernel_rfl) (by simp) ?_
  refine arc1 (some 13) fun K hK => ?_
  go_simp
  (refine (order_any _ _).mono ?_; rintro e w' ⟨rfl, rfl⟩)
  refine hK.out _ _ ?_ (fun hH => ?_)
  · (go_split_ands; refine ⟨?_, ?_, ?_, ?_, ?_⟩ <;> (first | assumption | (go_simp; done) | (go_keep; done) | (refine cell_later hb ?_; first | assumption | (go_keep; done)) | (refine bwS ?_ ?_ hb; (first | assumption | ((repeat (first | exact Below.refl _ _ | assumption | refine Below.drew ?_ | refine Below.drewN ?_ _ | refine blT ?_ | refine blU ?_)); done)); (first | exact Nat.le_refl _ | (simp; done) | (simp; omega))) | ((repeat (first | exact Below.refl _ _ | assumption | refine Below.drew ?_ | refine Below.drewN ?_ _ | refine blT ?_ | refine blU ?_)); done)))
  clear hK K
  (try simp only [cq])
  refine wpAnyH_ready (rs := [11]) (by kernel_rfl) (by simp) ?_
  refine arc1 (some 16) fun K hK => ?_
  go_simp
  (refine (number_any _ _ _ _).mono ?_; rintro e w' ⟨rfl, rfl⟩)
  refine hK.out _ _ ?_ (fun hH => ?_)
  · (go_split_ands; refine ⟨?_, ?_, ?_, ?_, ?_⟩ <;> (first | assumption | (go_simp; done) | (go_keep; done) | (refine cell_later hb ?_; first | assumption | (go_keep; done)) | (refine bwS ?_ ?_ hb; (first | assumption | ((repeat (first | exact Below.refl _ _ | assumption | refine Below.drew ?_ | refine Below.drewN ?_ _ | refine blT ?_ | refine blU ?_)); done)); (first | exact Nat.le_refl _ | (simp; done) | (simp; omega))) | ((repeat (first | exact Below.refl _ _ | assumption | refine Below.drew ?_ | refine Below.drewN ?_ _ | refine blT ?_ | refine blU ?_)); done)))
  clear hK K
  (try simp only [cq])
  refine wpAnyH_ready (rs := [17]) (by kernel_rfl) (by simp) ?_
  refine arc1 (some 22) fun K hK => ?_
  go_simp
  (refine (order_any _ _).mono ?_; rintro e w' ⟨rfl, rfl⟩)
  refine hK.out _ _ ?_ (fun hH => ?_)
  · (go_split_ands; refine ⟨?_, ?_, ?_, ?_, ?_⟩ <;> (first | assumption | (go_simp; done) | (go_keep; done) | (refine cell_later hb ?_; first | assumption | (go_keep; done)) | (refine bwS ?_ ?_ hb; (first | assumption | ((repeat (first | exact Below.refl _ _ | assumption | refine Below.drew ?_ | refine Below.drewN ?_ _ | refine blT ?_ | refine blU ?_)); done)); (first | exact Nat.le_refl _ | (simp; done) | (simp; omega))) | ((repeat (first | exact Below.refl _ _ | assumption | refine Below.drew ?_ | refine Below.drewN ?_ _ | refine blT ?_ | refine blU ?_)); done)))
  clear hK K
  (try simp only [cq])
  refine wpAnyH_ready (rs := [18]) (by kernel_rfl) (by simp) ?_
  refine arc1 (some 23) fun K hK => ?_
  go_simp
  refine hK.out _ _ ?_ (fun hH => ?_)
  · (go_split_ands; refine ⟨?_, ?_, ?_, ?_, ?_⟩ <;> (first | assumption | (go_simp; done) | (go_keep; done) | (refine cell_later hb ?_; first | assumption | (go_keep; done)) | (refine bwS ?_ ?_ hb; (first | assumption | ((repeat (first | exact Below.refl _ _ | assumption | refine Below.drew ?_ | refine Below.drewN ?_ _ | refine blT ?_ | refine blU ?_)); done)); (first | exact Nat.le_refl _ | (simp; done) | (simp; omega))) | ((repeat (first | exact Below.refl _ _ | assumption | refine Below.drew ?_ | refine Below.drewN ?_ _ | refine blT ?_ | refine blU ?_)); done)))
  clear hK K
  (try simp only [cq])
  refine wpAnyH_ready (rs := [19]) (by kernel_rfl) (by simp) ?_
  refine arc1 (some 24) fun K hK => ?_
  go_simp
  (refine (first_t1 _ _ f p g q _ (by first | (simp; done) | (go_simp; done) | (go_keep; done)) (by first | (simp; done) | (go_simp; done) | (go_keep; done)) (by first | (simp; done) | (go_simp; done) | (go_keep; done)) (by first | (simp; done) | (go_simp; done) | (go_keep; done))).mono ?_; rintro e w' ⟨rfl, rfl⟩)
  refine hK.out _ _ ?_ (fun hH => ?_)
  · (go_split_ands; refine ⟨?_, ?_, ?_, ?_, ?_⟩ <;> (first | assumption | (go_simp; done) | (go_keep; done) | (refine cell_later hb ?_; first | assumption | (go_keep; done)) | (refine bwS ?_ ?_ hb; (first | assumption | ((repeat (first | exact Below.refl _ _ | assumption | refine Below.drew ?_ | refine Below.drewN ?_ _ | refine blT ?_ | refine blU ?_)); done)); (first | exact Nat.le_refl _ | (simp; done) | (simp; omega))) | ((repeat (first | exact Below.refl _ _ | assumption | refine Below.drew ?_ | refine Below.drewN ?_ _ | refine blT ?_ | refine blU ?_)); done)))
  clear hK K
  (try simp only [cq])
  refine tkY 20 (some 4) ?_ ?_ ?_
  rotate_left
  · intro w _; go_simp; (try with_reducible rfl)
  (try simp only [cq])
  refine wpAnyH_done (by kernel_rfl) ?_ _
  (try dsimp only [Act.put])
  (try simp only [cq])
  have hBB : Below w.heap.size w _ := hH.2.2.2.2
  clear hH
  go_wp2
  go_ret
  exact ⟨rfl, hBB⟩
end Go.Proofs.Ytkkljbbgaogifaa

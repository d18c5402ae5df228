/-
  Contracts of the checks of covers, days, ice and laws (package frost).
-/
import Derived.Test.YtdbiijldincoiaaGreatTail
import Derived.Test.YtdbiijldincoiaaGreatChk
set_option linter.unusedVariables false
set_option linter.unusedSimpArgs false
namespace Go.Proofs.YtdbiijldincoiaaGreat
open Go.RowKit

def eC (d p0 p1 : Int) (t : Bool) (m0 m1 : Int) : Int := orE (eN d 0 5000) (orE (eO t) (orE (eS p0 p1 0 1000000) (eO (decide (p0 ≤ m0) && decide (p1 ≤ m1)))))

set_option maxHeartbeats 800000 in
theorem cover_any (d p0 p1 : Int) (t : Bool) (m0 m1 : Int) (w : World) :
    Calls Tryz.prog 93 #[.agg #[.int .i64 d, .int .i64 p0, .int .i64 p1], .bool t, .agg #[.int .i64 m0, .int .i64 m1]] w fun e w' => e = .returned (.int .i64 (eC d p0 p1 t m0 m1)) ∧ Below w.heap.size w w' := by
  by_cases h : p0 ≤ m0
  · have H : Hid (eC d p0 p1 t m0 m1 = orE (eN d 0 5000) (orE (eO t) (orE (eS p0 p1 0 1000000) (eO (decide (p1 ≤ m1)))))) := by simp [Hid, eC, h]
    go_enter Tryz.func93, Tryz.ntmps93
    go_wp2_with fail
    go_region_held3 (fun w' => w'.cell? ⟨w.heap.size, 0, none⟩ = some (.int .i64 d) ∧ w'.cell? ⟨w.heap.size, 1, none⟩ = some (.int .i64 p0) ∧ w'.cell? ⟨w.heap.size, 2, none⟩ = some (.int .i64 p1) ∧
        w'.cell? ⟨w.heap.size + 1, 0, none⟩ = some (.int .i64 m0) ∧ w'.cell? ⟨w.heap.size + 1, 1, none⟩ = some (.int .i64 m1) ∧ Below w.heap.size w w') ((go_split_ands; refine ⟨?_, ?_, ?_, ?_, ?_, ?_⟩ <;> (first | assumption | (go_simp; done) | (go_keep; done) | (refine cell_later hb ?_; first | assumption | (go_keep; done)) | (refine bwS ?_ ?_ hb; (first | assumption | ((repeat (first | exact Below.refl _ _ | assumption | refine Below.drew ?_ | refine Below.drewN ?_ _ | refine blT ?_ | refine blU ?_)); done)); (first | exact Nat.le_refl _ | (simp; done) | (simp; omega))) | ((repeat (first | exact Below.refl _ _ | assumption | refine Below.drew ?_ | refine Below.drewN ?_ _ | refine blT ?_ | refine blU ?_)); done))))
      (first | (go_at_call 48; refine (number_any _ _ _ _).mono ?_; rintro e w' ⟨rfl, rfl⟩) | (go_at_call 91; refine (order_any _ _).mono ?_; rintro e w' ⟨rfl, rfl⟩) | (go_at_call 67; refine (span_any _ _ _ _ _).mono ?_; rintro e w' ⟨rfl, hb⟩) | (go_at_call 42; refine (first_four _ _ (eN d 0 5000) (eO t) (eS p0 p1 0 1000000) (eO (decide (p1 ≤ m1))) _ ?_ ?_ ?_ ?_).mono ?_; simp; simp; simp; simp; rintro e w' ⟨rfl, rfl⟩))
    go_wp2
    go_ret
    exact ⟨by rw [H.out]; rfl, by (go_split_ands; first | assumption | (repeat (first | exact Below.refl _ _ | assumption | refine Below.drew ?_ | refine Below.drewN ?_ _ | refine blT ?_ | refine blU ?_)))⟩
  · have H : Hid (eC d p0 p1 t m0 m1 = orE (eN d 0 5000) (orE (eO t) (orE (eS p0 p1 0 1000000) (eO false)))) := by simp [Hid, eC, h]
    have hd : decide (p0 ≤ m0) = false := by simpa using h
    go_enter Tryz.func93, Tryz.ntmps93
    go_wp2_with fail
    refine wp_region_held_drew (S := (fun w' => w'.cell? ⟨w.heap.size, 0, none⟩ = some (.int .i64 d) ∧ w'.cell? ⟨w.heap.size, 1, none⟩ = some (.int .i64 p0) ∧ w'.cell? ⟨w.heap.size, 2, none⟩ = some (.int .i64 p1) ∧
            w'.cell? ⟨w.heap.size + 1, 0, none⟩ = some (.int .i64 m0) ∧ w'.cell? ⟨w.heap.size + 1, 1, none⟩ = some (.int .i64 m1) ∧ Below w.heap.size w w')) (by kernel_rfl) ?_ (fun hH => ?_)
    · (try dsimp only); ((go_split_ands; refine ⟨?_, ?_, ?_, ?_, ?_, ?_⟩ <;> (first | assumption | (go_simp; done) | (go_keep; done) | (refine cell_later hb ?_; first | assumption | (go_keep; done)) | (refine bwS ?_ ?_ hb; (first | assumption | ((repeat (first | exact Below.refl _ _ | assumption | refine Below.drew ?_ | refine Below.drewN ?_ _ | refine blT ?_ | refine blU ?_)); done)); (first | exact Nat.le_refl _ | (simp; done) | (simp; omega))) | ((repeat (first | exact Below.refl _ _ | assumption | refine Below.drew ?_ | refine Below.drewN ?_ _ | refine blT ?_ | refine blU ?_)); done))))
    refine tkY 0 (some 7) ?_ ?_ ?_
    rotate_left
    · intro w hS0; go_simp; (try with_reducible rfl)
    (try simp only [cq])
    refine tkY 1 (some 8) ?_ ?_ ?_
    rotate_left
    · intro w hS0; go_simp; (try with_reducible rfl)
    (try simp only [cq])
    refine tkY 3 (some 10) ?_ ?_ ?_
    rotate_left
    · intro w _; go_simp; (try with_reducible rfl)
    (try simp only [cq])
    refine tkY 5 (some 12) ?_ ?_ ?_
    rotate_left
    · intro w hS0; go_simp; (try with_reducible rfl)
    (try simp only [cq])
    refine tkY 6 (some 13) ?_ ?_ ?_
    rotate_left
    · intro w hS0; go_simp; (try with_reducible rfl)
    (try simp only [cq])
    refine tkY 8 (some 15) ?_ ?_ ?_
    rotate_left
    · intro w hS0; go_simp; (try with_reducible rfl)
    (try simp only [cq])
    refine tkY 9 (some 16) ?_ ?_ ?_
    rotate_left
    · intro w hS0; go_simp; (try with_reducible rfl)
    (try simp only [cq])
    refine tkY 10 (some 17) ?_ ?_ ?_
    rotate_left
    · intro w hS0; go_simp; (try with_reducible rfl)
    (try simp only [cq])
    refine tkY 11 (some 18) ?_ ?_ ?_
    rotate_left
    · intro w hS0; go_simp; (try with_reducible rfl)
    (try simp only [cq])
    refine tkY 12 (some 19) ?_ ?_ ?_
    rotate_left
    · intro w hS0; go_simp; (try with_reducible rfl)
    (try simp only [cq])
    refine tkY 13 (some 20) ?_ ?_ ?_
    rotate_left
    · intro w _; go_simp; (try with_reducible rfl)
    (try simp only [cq])
    refine wpAnyH_ready (rs := [2]) (by kernel_rfl) (by simp) ?_
    refine arc1 (some 9) fun K hK => ?_
    go_simp
    (refine (number_any _ _ _ _).mono ?_; rintro e w' ⟨rfl, rfl⟩)
    refine hK.out _ _ ?_ (fun hH => ?_)
    · ((go_split_ands; refine ⟨?_, ?_, ?_, ?_, ?_, ?_⟩ <;> (first | assumption | (go_simp; done) | (go_keep; done) | (refine cell_later hb ?_; first | assumption | (go_keep; done)) | (refine bwS ?_ ?_ hb; (first | assumption | ((repeat (first | exact Below.refl _ _ | assumption | refine Below.drew ?_ | refine Below.drewN ?_ _ | refine blT ?_ | refine blU ?_)); done)); (first | exact Nat.le_refl _ | (simp; done) | (simp; omega))) | ((repeat (first | exact Below.refl _ _ | assumption | refine Below.drew ?_ | refine Below.drewN ?_ _ | refine blT ?_ | refine blU ?_)); done))))
    clear hK K
    (try simp only [cq])
    refine wpAnyH_ready (rs := [4]) (by kernel_rfl) (by simp) ?_
    refine arc1 (some 11) fun K hK => ?_
    go_simp
    (refine (order_any _ _).mono ?_; rintro e w' ⟨rfl, rfl⟩)
    refine hK.out _ _ ?_ (fun hH => ?_)
    · ((go_split_ands; refine ⟨?_, ?_, ?_, ?_, ?_, ?_⟩ <;> (first | assumption | (go_simp; done) | (go_keep; done) | (refine cell_later hb ?_; first | assumption | (go_keep; done)) | (refine bwS ?_ ?_ hb; (first | assumption | ((repeat (first | exact Below.refl _ _ | assumption | refine Below.drew ?_ | refine Below.drewN ?_ _ | refine blT ?_ | refine blU ?_)); done)); (first | exact Nat.le_refl _ | (simp; done) | (simp; omega))) | ((repeat (first | exact Below.refl _ _ | assumption | refine Below.drew ?_ | refine Below.drewN ?_ _ | refine blT ?_ | refine blU ?_)); done))))
    clear hK K
    (try simp only [cq])
    refine wpAnyH_ready (rs := [7]) (by kernel_rfl) (by simp) ?_
    refine arc1 (some 14) fun K hK => ?_
    go_simp
    (refine (span_any _ _ _ _ _).mono ?_; rintro e w' ⟨rfl, hb⟩)
    refine hK.out _ _ ?_ (fun hH => ?_)
    · ((go_split_ands; refine ⟨?_, ?_, ?_, ?_, ?_, ?_⟩ <;> (first | assumption | (go_simp; done) | (go_keep; done) | (refine cell_later hb ?_; first | assumption | (go_keep; done)) | (refine bwS ?_ ?_ hb; (first | assumption | ((repeat (first | exact Below.refl _ _ | assumption | refine Below.drew ?_ | refine Below.drewN ?_ _ | refine blT ?_ | refine blU ?_)); done)); (first | exact Nat.le_refl _ | (simp; done) | (simp; omega))) | ((repeat (first | exact Below.refl _ _ | assumption | refine Below.drew ?_ | refine Below.drewN ?_ _ | refine blT ?_ | refine blU ?_)); done))))
    clear hK K
    (try simp only [cq])
    refine tkY 14 (some 21) ?_ ?_ ?_
    rotate_left
    · intro w _; go_simp; (try with_reducible rfl)
    (try simp only [cq])
    refine tkN 15 (some 22) ?_
    (try simp only [cq])
    refine tkN 16 (some 23) ?_
    (try simp only [cq])
    refine tkN 17 (some 24) ?_
    (try simp only [cq])
    refine tkN 18 (some 25) ?_
    (try simp only [cq])
    refine tkN 19 (some 26) ?_
    (try simp only [cq])
    refine tkN 20 (some 27) ?_
    (try simp only [cq])
    refine tkY 21 (some 28) ?_ ?_ ?_
    rotate_left
    · intro w _; go_simp; (try with_reducible rfl)
    (try simp only [cq])
    refine wpAnyH_ready (rs := [22]) (by kernel_rfl) (by simp) ?_
    refine arc1 (some 29) fun K hK => ?_
    go_simp
    (refine (order_any _ _).mono ?_; rintro e w' ⟨rfl, rfl⟩)
    refine hK.out _ _ ?_ (fun hH => ?_)
    · ((go_split_ands; refine ⟨?_, ?_, ?_, ?_, ?_, ?_⟩ <;> (first | assumption | (go_simp; done) | (go_keep; done) | (refine cell_later hb ?_; first | assumption | (go_keep; done)) | (refine bwS ?_ ?_ hb; (first | assumption | ((repeat (first | exact Below.refl _ _ | assumption | refine Below.drew ?_ | refine Below.drewN ?_ _ | refine blT ?_ | refine blU ?_)); done)); (first | exact Nat.le_refl _ | (simp; done) | (simp; omega))) | ((repeat (first | exact Below.refl _ _ | assumption | refine Below.drew ?_ | refine Below.drewN ?_ _ | refine blT ?_ | refine blU ?_)); done))))
    clear hK K
    (try simp only [cq])
    refine wpAnyH_ready (rs := [23]) (by kernel_rfl) (by simp) ?_
    refine arc1 (some 30) fun K hK => ?_
    go_simp
    refine hK.out _ _ ?_ (fun hH => ?_)
    · ((go_split_ands; refine ⟨?_, ?_, ?_, ?_, ?_, ?_⟩ <;> (first | assumption | (go_simp; done) | (go_keep; done) | (refine cell_later hb ?_; first | assumption | (go_keep; done)) | (refine bwS ?_ ?_ hb; (first | assumption | ((repeat (first | exact Below.refl _ _ | assumption | refine Below.drew ?_ | refine Below.drewN ?_ _ | refine blT ?_ | refine blU ?_)); done)); (first | exact Nat.le_refl _ | (simp; done) | (simp; omega))) | ((repeat (first | exact Below.refl _ _ | assumption | refine Below.drew ?_ | refine Below.drewN ?_ _ | refine blT ?_ | refine blU ?_)); done))))
    clear hK K
    (try simp only [cq])
    refine wpAnyH_ready (rs := [24]) (by kernel_rfl) (by simp) ?_
    refine arc1 (some 31) fun K hK => ?_
    go_simp
    (refine (first_four _ _ (eN d 0 5000) (eO t) (eS p0 p1 0 1000000) (eO false) _ ?_ ?_ ?_ ?_).mono ?_; simp; simp; simp; simp; rintro e w' ⟨rfl, rfl⟩)
    refine hK.out _ _ ?_ (fun hH => ?_)
    · ((go_split_ands; refine ⟨?_, ?_, ?_, ?_, ?_, ?_⟩ <;> (first | assumption | (go_simp; done) | (go_keep; done) | (refine cell_later hb ?_; first | assumption | (go_keep; done)) | (refine bwS ?_ ?_ hb; (first | assumption | ((repeat (first | exact Below.refl _ _ | assumption | refine Below.drew ?_ | refine Below.drewN ?_ _ | refine blT ?_ | refine blU ?_)); done)); (first | exact Nat.le_refl _ | (simp; done) | (simp; omega))) | ((repeat (first | exact Below.refl _ _ | assumption | refine Below.drew ?_ | refine Below.drewN ?_ _ | refine blT ?_ | refine blU ?_)); done))))
    clear hK K
    (try simp only [cq])
    refine tkY 25 (some 6) ?_ ?_ ?_
    rotate_left
    · intro w _; go_simp; (try with_reducible rfl)
    (try simp only [cq])
    refine wpAnyH_done (by kernel_rfl) ?_ _
    (try dsimp only [Act.put])
    (try simp only [cq])
    go_wp2
    go_ret
    exact ⟨by rw [H.out]; rfl, by (go_split_ands; first | assumption | (repeat (first | exact Below.refl _ _ | assumption | refine Below.drew ?_ | refine Below.drewN ?_ _ | refine blT ?_ | refine blU ?_)))⟩
end Go.Proofs.YtdbiijldincoiaaGreat

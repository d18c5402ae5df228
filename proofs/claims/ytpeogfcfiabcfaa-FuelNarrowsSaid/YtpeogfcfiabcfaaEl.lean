/-
  What package fuel checks of one thing of a list: exact for any thing.
-/
import Derived.Test.YtpeogfcfiabcfaaTail
import Derived.Test.YtpeogfcfiabcfaaLst
import Derived.Test.YtpeogfcfiabcfaaField
import Derived.IntWalk
set_option linter.unusedVariables false
set_option linter.unusedSimpArgs false
namespace Go.Proofs.Ytpeogfcfiabcfaa
open Go.RowKit

def eLit (lo hi : Int) : Int := eS lo hi 0 1000000000
def eTen (lo hi : Int) : Int := eS lo hi (-1000) 1000
theorem litres_any (a c : Int) (w : World) :
    Calls Try.prog 78 #[.agg #[.int .i64 a, .int .i64 c]] w fun e w' => e = .returned (.int .i64 (eLit a c)) ∧ Below w.heap.size w w' := by
  go_enter Try.func78, Try.ntmps78
  go_wp2_with fail
  refine (span_any _ _ _ _ _).mono ?_
  rintro e w' ⟨rfl, hb⟩
  have hBB : Below w.heap.size w w' := bwS (by (repeat (first | exact Below.refl _ _ | assumption | refine Below.drew ?_ | refine Below.drewN ?_ _ | refine blT ?_ | refine blU ?_))) (by first | exact Nat.le_refl _ | (simp; done) | (simp; omega)) hb
  clear hb
  go_wp2
  go_ret
  exact ⟨rfl, hBB⟩
theorem tenths_any (a c : Int) (w : World) :
    Calls Try.prog 79 #[.agg #[.int .i64 a, .int .i64 c]] w fun e w' => e = .returned (.int .i64 (eTen a c)) ∧ Below w.heap.size w w' := by
  go_enter Try.func79, Try.ntmps79
  go_wp2_with fail
  refine (span_any _ _ _ _ _).mono ?_
  rintro e w' ⟨rfl, hb⟩
  have hBB : Below w.heap.size w w' := bwS (by (repeat (first | exact Below.refl _ _ | assumption | refine Below.drew ?_ | refine Below.drewN ?_ _ | refine blT ?_ | refine blU ?_))) (by first | exact Nat.le_refl _ | (simp; done) | (simp; omega)) hb
  clear hb
  go_wp2
  go_ret
  exact ⟨rfl, hBB⟩
theorem cold_one (i : Int) (a c : Int) (w : World) :
    Calls Try.prog 100 #[.int .i64 i, .agg #[.int .i64 a, .int .i64 c]] w fun e w' => e = .returned (.int .i64 (eTen a c)) ∧ Below w.heap.size w w' := by
  go_enter Try.func100, Try.ntmps100
  go_wp2_with fail
  refine (tenths_any _ _ _).mono ?_
  rintro e w' ⟨rfl, hb⟩
  have hBB : Below w.heap.size w w' := bwS (by (repeat (first | exact Below.refl _ _ | assumption | refine Below.drew ?_ | refine Below.drewN ?_ _ | refine blT ?_ | refine blU ?_))) (by first | exact Nat.le_refl _ | (simp; done) | (simp; omega)) hb
  clear hb
  go_wp2
  go_ret
  exact ⟨rfl, hBB⟩

def eMv (m : Mv) (n : Int) : Int := orE (eI m.fr n) (orE (eI m.tt n) (orE (eF (m.fr != m.tt)) (eLit m.lo m.hi)))
theorem first_mv (b cap : Nat) (m : Mv) (n : Int) (w : World) (h0 : w.cell? ⟨b, 0, none⟩ = some (.int .i64 (eI m.fr n))) (h1 : w.cell? ⟨b, 1, none⟩ = some (.int .i64 (eI m.tt n))) (h2 : w.cell? ⟨b, 2, none⟩ = some (.int .i64 (eF (m.fr != m.tt)))) (h3 : w.cell? ⟨b, 3, none⟩ = some (.int .i64 (eLit m.lo m.hi))) :
    Calls Try.prog 77 #[.slice (some ⟨b, 0, none⟩) 4 cap] w fun e w' => e = .returned (.int .i64 (eMv m n)) ∧ w = w' := first_four b cap _ _ _ _ w h0 h1 h2 h3
set_option maxHeartbeats 2000000 in
theorem move_any (m : Mv) (n : Int) (w : World) :
    Calls Try.prog 148 #[.agg #[.int .i64 m.fr, .int .i64 m.tt, .int .i64 m.lo, .int .i64 m.hi], .int .i64 n] w fun e w' => e = .returned (.int .i64 (eMv m n)) ∧ Below w.heap.size w w' := by
  go_enter Try.func148, Try.ntmps148
  go_wp2_with fail
  refine wp_region_held_drew (S := (fun w' => w'.cell? ⟨w.heap.size, 0, none⟩ = some (.int .i64 m.fr) ∧ w'.cell? ⟨w.heap.size, 1, none⟩ = some (.int .i64 m.tt) ∧ w'.cell? ⟨w.heap.size, 2, none⟩ = some (.int .i64 m.lo) ∧ w'.cell? ⟨w.heap.size, 3, none⟩ = some (.int .i64 m.hi) ∧ Below w.heap.size w w')) (by kernel_rfl) ?_ (fun hH => ?_)
  · (try dsimp only); (go_split_ands; refine ⟨?_, ?_, ?_, ?_, ?_⟩ <;> (first | assumption | (go_simp; done) | (go_keep; done) | (refine cell_later hb ?_; first | assumption | (go_keep; done)) | (refine bwS ?_ ?_ hb; (first | assumption | ((repeat (first | exact Below.refl _ _ | assumption | refine Below.drew ?_ | refine Below.drewN ?_ _ | refine blT ?_ | refine blU ?_)); done)); (first | exact Nat.le_refl _ | (simp; done) | (simp; omega))) | ((repeat (first | exact Below.refl _ _ | assumption | refine Below.drew ?_ | refine Below.drewN ?_ _ | refine blT ?_ | refine blU ?_)); done)))
  refine tkY 0 (some 5) ?_ ?_ ?_
  rotate_left
  · intro w hS0; go_simp; (try with_reducible rfl)
  (try simp only [cq])
  refine tkY 1 (some 6) ?_ ?_ ?_
  rotate_left
  · intro w hS0; go_simp; (try with_reducible rfl)
  (try simp only [cq])
  refine tkY 2 (some 7) ?_ ?_ ?_
  rotate_left
  · intro w _; go_simp; (try with_reducible rfl)
  (try simp only [cq])
  refine tkY 4 (some 9) ?_ ?_ ?_
  rotate_left
  · intro w hS0; go_simp; (try with_reducible rfl)
  (try simp only [cq])
  refine tkY 5 (some 10) ?_ ?_ ?_
  rotate_left
  · intro w hS0; go_simp; (try with_reducible rfl)
  (try simp only [cq])
  refine tkY 6 (some 11) ?_ ?_ ?_
  rotate_left
  · intro w _; go_simp; (try with_reducible rfl)
  (try simp only [cq])
  refine tkY 8 (some 13) ?_ ?_ ?_
  rotate_left
  · intro w hS0; go_simp; (try with_reducible rfl)
  (try simp only [cq])
  refine tkY 9 (some 14) ?_ ?_ ?_
  rotate_left
  · intro w hS0; go_simp; (try with_reducible rfl)
  (try simp only [cq])
  refine tkY 10 (some 15) ?_ ?_ ?_
  rotate_left
  · intro w hS0; go_simp; (try with_reducible rfl)
  (try simp only [cq])
  refine tkY 11 (some 16) ?_ ?_ ?_
  rotate_left
  · intro w hS0; go_simp; (try with_reducible rfl)
  (try simp only [cq])
  refine tkY 12 (some 17) ?_ ?_ ?_
  rotate_left
  · intro w _; go_simp; (try with_reducible rfl)
  (try simp only [cq])
  refine tkY 14 (some 19) ?_ ?_ ?_
  rotate_left
  · intro w hS0; go_simp; (try with_reducible rfl)
  (try simp only [cq])
  refine tkY 15 (some 20) ?_ ?_ ?_
  rotate_left
  · intro w hS0; go_simp; (try with_reducible rfl)
  (try simp only [cq])
  refine wpAnyH_ready (rs := [3]) (by kernel_rfl) (by simp) ?_
  refine arc1 (some 8) fun K hK => ?_
  go_simp
  (refine (index_any _ _ _).mono ?_; rintro e w' ⟨rfl, rfl⟩)
  refine hK.out _ _ ?_ (fun hH => ?_)
  · (go_split_ands; refine ⟨?_, ?_, ?_, ?_, ?_⟩ <;> (first | assumption | (go_simp; done) | (go_keep; done) | (refine cell_later hb ?_; first | assumption | (go_keep; done)) | (refine bwS ?_ ?_ hb; (first | assumption | ((repeat (first | exact Below.refl _ _ | assumption | refine Below.drew ?_ | refine Below.drewN ?_ _ | refine blT ?_ | refine blU ?_)); done)); (first | exact Nat.le_refl _ | (simp; done) | (simp; omega))) | ((repeat (first | exact Below.refl _ _ | assumption | refine Below.drew ?_ | refine Below.drewN ?_ _ | refine blT ?_ | refine blU ?_)); done)))
  clear hK K
  (try simp only [cq])
  refine wpAnyH_ready (rs := [7]) (by kernel_rfl) (by simp) ?_
  refine arc1 (some 12) fun K hK => ?_
  go_simp
  (refine (index_any _ _ _).mono ?_; rintro e w' ⟨rfl, rfl⟩)
  refine hK.out _ _ ?_ (fun hH => ?_)
  · (go_split_ands; refine ⟨?_, ?_, ?_, ?_, ?_⟩ <;> (first | assumption | (go_simp; done) | (go_keep; done) | (refine cell_later hb ?_; first | assumption | (go_keep; done)) | (refine bwS ?_ ?_ hb; (first | assumption | ((repeat (first | exact Below.refl _ _ | assumption | refine Below.drew ?_ | refine Below.drewN ?_ _ | refine blT ?_ | refine blU ?_)); done)); (first | exact Nat.le_refl _ | (simp; done) | (simp; omega))) | ((repeat (first | exact Below.refl _ _ | assumption | refine Below.drew ?_ | refine Below.drewN ?_ _ | refine blT ?_ | refine blU ?_)); done)))
  clear hK K
  (try simp only [cq])
  refine wpAnyH_ready (rs := [13]) (by kernel_rfl) (by simp) ?_
  refine arc1 (some 18) fun K hK => ?_
  go_simp
  (refine (form_any _ _).mono ?_; rintro e w' ⟨rfl, rfl⟩)
  refine hK.out _ _ ?_ (fun hH => ?_)
  · (go_split_ands; refine ⟨?_, ?_, ?_, ?_, ?_⟩ <;> (first | assumption | (go_simp; done) | (go_keep; done) | (refine cell_later hb ?_; first | assumption | (go_keep; done)) | (refine bwS ?_ ?_ hb; (first | assumption | ((repeat (first | exact Below.refl _ _ | assumption | refine Below.drew ?_ | refine Below.drewN ?_ _ | refine blT ?_ | refine blU ?_)); done)); (first | exact Nat.le_refl _ | (simp; done) | (simp; omega))) | ((repeat (first | exact Below.refl _ _ | assumption | refine Below.drew ?_ | refine Below.drewN ?_ _ | refine blT ?_ | refine blU ?_)); done)))
  clear hK K
  (try simp only [cq])
  refine wpAnyH_ready (rs := [16]) (by kernel_rfl) (by simp) ?_
  refine arc1 (some 21) fun K hK => ?_
  go_simp
  (refine (litres_any _ _ _).mono ?_; rintro e w' ⟨rfl, hb⟩)
  refine hK.out _ _ ?_ (fun hH => ?_)
  · (go_split_ands; refine ⟨?_, ?_, ?_, ?_, ?_⟩ <;> (first | assumption | (go_simp; done) | (go_keep; done) | (refine cell_later hb ?_; first | assumption | (go_keep; done)) | (refine bwS ?_ ?_ hb; (first | assumption | ((repeat (first | exact Below.refl _ _ | assumption | refine Below.drew ?_ | refine Below.drewN ?_ _ | refine blT ?_ | refine blU ?_)); done)); (first | exact Nat.le_refl _ | (simp; done) | (simp; omega))) | ((repeat (first | exact Below.refl _ _ | assumption | refine Below.drew ?_ | refine Below.drewN ?_ _ | refine blT ?_ | refine blU ?_)); done)))
  clear hK K
  (try simp only [cq])
  refine wpAnyH_ready (rs := [17]) (by kernel_rfl) (by simp) ?_
  refine arc1 (some 22) fun K hK => ?_
  go_simp
  refine hK.out _ _ ?_ (fun hH => ?_)
  · (go_split_ands; refine ⟨?_, ?_, ?_, ?_, ?_⟩ <;> (first | assumption | (go_simp; done) | (go_keep; done) | (refine cell_later hb ?_; first | assumption | (go_keep; done)) | (refine bwS ?_ ?_ hb; (first | assumption | ((repeat (first | exact Below.refl _ _ | assumption | refine Below.drew ?_ | refine Below.drewN ?_ _ | refine blT ?_ | refine blU ?_)); done)); (first | exact Nat.le_refl _ | (simp; done) | (simp; omega))) | ((repeat (first | exact Below.refl _ _ | assumption | refine Below.drew ?_ | refine Below.drewN ?_ _ | refine blT ?_ | refine blU ?_)); done)))
  clear hK K
  (try simp only [cq])
  refine wpAnyH_ready (rs := [18]) (by kernel_rfl) (by simp) ?_
  refine arc1 (some 23) fun K hK => ?_
  go_simp
  (refine (first_mv _ _ m n _ (by first | (simp; done) | (go_simp; done) | (go_keep; done)) (by first | (simp; done) | (go_simp; done) | (go_keep; done)) (by first | (simp; done) | (go_simp; done) | (go_keep; done)) (by first | (simp; done) | (go_simp; done) | (go_keep; done))).mono ?_; rintro e w' ⟨rfl, rfl⟩)
  refine hK.out _ _ ?_ (fun hH => ?_)
  · (go_split_ands; refine ⟨?_, ?_, ?_, ?_, ?_⟩ <;> (first | assumption | (go_simp; done) | (go_keep; done) | (refine cell_later hb ?_; first | assumption | (go_keep; done)) | (refine bwS ?_ ?_ hb; (first | assumption | ((repeat (first | exact Below.refl _ _ | assumption | refine Below.drew ?_ | refine Below.drewN ?_ _ | refine blT ?_ | refine blU ?_)); done)); (first | exact Nat.le_refl _ | (simp; done) | (simp; omega))) | ((repeat (first | exact Below.refl _ _ | assumption | refine Below.drew ?_ | refine Below.drewN ?_ _ | refine blT ?_ | refine blU ?_)); done)))
  clear hK K
  (try simp only [cq])
  refine tkY 19 (some 4) ?_ ?_ ?_
  rotate_left
  · intro w _; go_simp; (try with_reducible rfl)
  (try simp only [cq])
  refine wpAnyH_done (by kernel_rfl) ?_ _
  (try dsimp only [Act.put])
  (try simp only [cq])
  have hBB : Below w.heap.size w _ := hH.2.2.2.2
  clear hH
  go_wp2
  go_ret
  exact ⟨rfl, hBB⟩
theorem move_one (i : Int) (m : Mv) (bp : Nat) (aa : Option Addr) (n ac : Nat) (hn : n ≤ 9223372036854775807) (w : World) (hv : w.cell? ⟨bp, 0, none⟩ = some (.slice aa n ac)) :
    Calls Try.prog 147 #[.int .i64 i, .agg #[.int .i64 m.fr, .int .i64 m.tt, .int .i64 m.lo, .int .i64 m.hi], .pointer (some ⟨bp, 0, none⟩)] w fun e w' => e = .returned (.int .i64 (eMv m n)) ∧ Below w.heap.size w w' := by
  have zt := World.block_lt_of_cell? _ _ hv
  go_enter Try.func147, Try.ntmps147
  go_wp2_with fail
  refine (move_any m n _).mono ?_
  rintro e w' ⟨rfl, hb⟩
  have hBB : Below w.heap.size w w' := bwS (by (repeat (first | exact Below.refl _ _ | assumption | refine Below.drew ?_ | refine Below.drewN ?_ _ | refine blT ?_ | refine blU ?_))) (by first | exact Nat.le_refl _ | (simp; done) | (simp; omega)) hb
  clear hb
  go_wp2
  go_ret
  exact ⟨rfl, hBB⟩

def eBu (U : Nat → Bu) (i : Nat) : Int := orE (eN (U i).co (-1000) 1000) (orE (eO (i == 0 || decide ((U (i - 1)).co < (U i).co))) (eLit (U i).lo (U i).hi))
theorem first_bu (b cap : Nat) (co lo hi : Int) (ob : Bool) (w : World) (h0 : w.cell? ⟨b, 0, none⟩ = some (.int .i64 (eN co (-1000) 1000))) (h1 : w.cell? ⟨b, 1, none⟩ = some (.int .i64 (eO ob))) (h2 : w.cell? ⟨b, 2, none⟩ = some (.int .i64 (eLit lo hi))) :
    Calls Try.prog 77 #[.slice (some ⟨b, 0, none⟩) 3 cap] w fun e w' => e = .returned (.int .i64 (orE (eN co (-1000) 1000) (orE (eO ob) (eLit lo hi)))) ∧ w = w' := first_three b cap _ _ _ w h0 h1 h2
set_option maxHeartbeats 2000000 in
theorem burn_one (U : Nat → Bu) (bp b o n cap : Nat) (i : Nat) (hi : i < n) (hn : n ≤ 9223372036854775807) (w : World) (hv : w.cell? ⟨bp, 0, none⟩ = some (.slice (some ⟨b, o, none⟩) n cap)) (hc : AtC w b o n 3 (buC U)) :
    Calls Try.prog 142 #[.int .i64 i, .agg #[.int .i64 (U i).co, .int .i64 (U i).lo, .int .i64 (U i).hi], .pointer (some ⟨bp, 0, none⟩)] w fun e w' => e = .returned (.int .i64 (eBu U i)) ∧ Below w.heap.size w w' := by
  have zt := World.block_lt_of_cell? _ _ hv
  obtain ⟨x, hx⟩ : ∃ x, U i = x := ⟨_, rfl⟩
  by_cases h0 : i = 0
  · have hE : eBu U i = orE (eN x.co (-1000) 1000) (orE (eO true) (eLit x.lo x.hi)) := by unfold eBu; rw [hx, h0]; rfl
    rw [hE, hx]
    clear hE hx hc
    subst h0
    go_enter Try.func142, Try.ntmps142
    go_wp2_with fail
    refine wp_region_held_drew (S := (fun w' => w'.cell? ⟨w.heap.size, 0, none⟩ = some (.int .i64 x.co) ∧ w'.cell? ⟨w.heap.size, 1, none⟩ = some (.int .i64 x.lo) ∧ w'.cell? ⟨w.heap.size, 2, none⟩ = some (.int .i64 x.hi) ∧ Below w.heap.size w w')) (by kernel_rfl) ?_ (fun hH => ?_)
    · (try dsimp only); (go_split_ands; refine ⟨?_, ?_, ?_, ?_⟩ <;> (first | assumption | (go_simp; done) | (go_keep; done) | (refine cell_later hb ?_; first | assumption | (go_keep; done)) | (refine bwS ?_ ?_ hb; (first | assumption | ((repeat (first | exact Below.refl _ _ | assumption | refine Below.drew ?_ | refine Below.drewN ?_ _ | refine blT ?_ | refine blU ?_)); done)); (first | exact Nat.le_refl _ | (simp; done) | (simp; omega))) | ((repeat (first | exact Below.refl _ _ | assumption | refine Below.drew ?_ | refine Below.drewN ?_ _ | refine blT ?_ | refine blU ?_)); done)))
    refine tkY 0 (some 6) ?_ ?_ ?_
    rotate_left
    · intro w hS0; go_simp; (try with_reducible rfl)
    (try simp only [cq])
    refine tkY 1 (some 7) ?_ ?_ ?_
    rotate_left
    · intro w hS0; go_simp; (try with_reducible rfl)
    (try simp only [cq])
    refine tkY 3 (some 9) ?_ ?_ ?_
    rotate_left
    · intro w _; go_simp; (try with_reducible rfl)
    (try simp only [cq])
    refine tkY 4 (some 10) ?_ ?_ ?_
    rotate_left
    · intro w _; go_simp; (try with_reducible rfl)
    (try simp only [cq])
    refine tkY 17 (some 23) ?_ ?_ ?_
    rotate_left
    · intro w hS0; go_simp; (try with_reducible rfl)
    (try simp only [cq])
    refine tkY 18 (some 24) ?_ ?_ ?_
    rotate_left
    · intro w hS0; go_simp; (try with_reducible rfl)
    (try simp only [cq])
    refine wpAnyH_ready (rs := [2]) (by kernel_rfl) (by simp) ?_
    refine arc1 (some 8) fun K hK => ?_
    go_simp
    (refine (number_any _ _ _ _).mono ?_; rintro e w' ⟨rfl, rfl⟩)
    refine hK.out _ _ ?_ (fun hH => ?_)
    · (go_split_ands; refine ⟨?_, ?_, ?_, ?_⟩ <;> (first | assumption | (go_simp; done) | (go_keep; done) | (refine cell_later hb ?_; first | assumption | (go_keep; done)) | (refine bwS ?_ ?_ hb; (first | assumption | ((repeat (first | exact Below.refl _ _ | assumption | refine Below.drew ?_ | refine Below.drewN ?_ _ | refine blT ?_ | refine blU ?_)); done)); (first | exact Nat.le_refl _ | (simp; done) | (simp; omega))) | ((repeat (first | exact Below.refl _ _ | assumption | refine Below.drew ?_ | refine Below.drewN ?_ _ | refine blT ?_ | refine blU ?_)); done)))
    clear hK K
    (try simp only [cq])
    refine tkY 5 (some 11) ?_ ?_ ?_
    rotate_left
    · intro w _; go_simp; (try with_reducible rfl)
    (try simp only [cq])
    refine tkN 6 (some 12) ?_
    (try simp only [cq])
    refine tkN 7 (some 13) ?_
    (try simp only [cq])
    refine tkN 8 (some 14) ?_
    (try simp only [cq])
    refine tkN 9 (some 15) ?_
    (try simp only [cq])
    refine tkN 10 (some 16) ?_
    (try simp only [cq])
    refine tkN 11 (some 17) ?_
    (try simp only [cq])
    refine tkN 12 (some 18) ?_
    (try simp only [cq])
    refine tkN 13 (some 19) ?_
    (try simp only [cq])
    refine tkN 14 (some 20) ?_
    (try simp only [cq])
    refine tkY 15 (some 21) ?_ ?_ ?_
    rotate_left
    · intro w _; go_simp; (try with_reducible rfl)
    (try simp only [cq])
    refine wpAnyH_ready (rs := [16]) (by kernel_rfl) (by simp) ?_
    refine arc1 (some 22) fun K hK => ?_
    go_simp
    (refine (order_any true _).mono ?_; rintro e w' ⟨rfl, rfl⟩)
    refine hK.out _ _ ?_ (fun hH => ?_)
    · (go_split_ands; refine ⟨?_, ?_, ?_, ?_⟩ <;> (first | assumption | (go_simp; done) | (go_keep; done) | (refine cell_later hb ?_; first | assumption | (go_keep; done)) | (refine bwS ?_ ?_ hb; (first | assumption | ((repeat (first | exact Below.refl _ _ | assumption | refine Below.drew ?_ | refine Below.drewN ?_ _ | refine blT ?_ | refine blU ?_)); done)); (first | exact Nat.le_refl _ | (simp; done) | (simp; omega))) | ((repeat (first | exact Below.refl _ _ | assumption | refine Below.drew ?_ | refine Below.drewN ?_ _ | refine blT ?_ | refine blU ?_)); done)))
    clear hK K
    (try simp only [cq])
    refine wpAnyH_ready (rs := [19]) (by kernel_rfl) (by simp) ?_
    refine arc1 (some 25) fun K hK => ?_
    go_simp
    (refine (litres_any _ _ _).mono ?_; rintro e w' ⟨rfl, hb⟩)
    refine hK.out _ _ ?_ (fun hH => ?_)
    · (go_split_ands; refine ⟨?_, ?_, ?_, ?_⟩ <;> (first | assumption | (go_simp; done) | (go_keep; done) | (refine cell_later hb ?_; first | assumption | (go_keep; done)) | (refine bwS ?_ ?_ hb; (first | assumption | ((repeat (first | exact Below.refl _ _ | assumption | refine Below.drew ?_ | refine Below.drewN ?_ _ | refine blT ?_ | refine blU ?_)); done)); (first | exact Nat.le_refl _ | (simp; done) | (simp; omega))) | ((repeat (first | exact Below.refl _ _ | assumption | refine Below.drew ?_ | refine Below.drewN ?_ _ | refine blT ?_ | refine blU ?_)); done)))
    clear hK K
    (try simp only [cq])
    refine wpAnyH_ready (rs := [20]) (by kernel_rfl) (by simp) ?_
    refine arc1 (some 26) fun K hK => ?_
    go_simp
    refine hK.out _ _ ?_ (fun hH => ?_)
    · (go_split_ands; refine ⟨?_, ?_, ?_, ?_⟩ <;> (first | assumption | (go_simp; done) | (go_keep; done) | (refine cell_later hb ?_; first | assumption | (go_keep; done)) | (refine bwS ?_ ?_ hb; (first | assumption | ((repeat (first | exact Below.refl _ _ | assumption | refine Below.drew ?_ | refine Below.drewN ?_ _ | refine blT ?_ | refine blU ?_)); done)); (first | exact Nat.le_refl _ | (simp; done) | (simp; omega))) | ((repeat (first | exact Below.refl _ _ | assumption | refine Below.drew ?_ | refine Below.drewN ?_ _ | refine blT ?_ | refine blU ?_)); done)))
    clear hK K
    (try simp only [cq])
    refine wpAnyH_ready (rs := [21]) (by kernel_rfl) (by simp) ?_
    refine arc1 (some 27) fun K hK => ?_
    go_simp
    (refine (first_bu _ _ x.co x.lo x.hi true _ (by first | (simp; done) | (go_simp; done) | (go_keep; done)) (by first | (simp; done) | (go_simp; done) | (go_keep; done)) (by first | (simp; done) | (go_simp; done) | (go_keep; done))).mono ?_; rintro e w' ⟨rfl, rfl⟩)
    refine hK.out _ _ ?_ (fun hH => ?_)
    · (go_split_ands; refine ⟨?_, ?_, ?_, ?_⟩ <;> (first | assumption | (go_simp; done) | (go_keep; done) | (refine cell_later hb ?_; first | assumption | (go_keep; done)) | (refine bwS ?_ ?_ hb; (first | assumption | ((repeat (first | exact Below.refl _ _ | assumption | refine Below.drew ?_ | refine Below.drewN ?_ _ | refine blT ?_ | refine blU ?_)); done)); (first | exact Nat.le_refl _ | (simp; done) | (simp; omega))) | ((repeat (first | exact Below.refl _ _ | assumption | refine Below.drew ?_ | refine Below.drewN ?_ _ | refine blT ?_ | refine blU ?_)); done)))
    clear hK K
    (try simp only [cq])
    refine tkY 22 (some 5) ?_ ?_ ?_
    rotate_left
    · intro w _; go_simp; (try with_reducible rfl)
    (try simp only [cq])
    refine wpAnyH_done (by kernel_rfl) ?_ _
    (try dsimp only [Act.put])
    (try simp only [cq])
    have hBB : Below w.heap.size w _ := hH.2.2.2
    clear hH
    go_wp2
    go_ret
    exact ⟨rfl, hBB⟩
  · obtain ⟨j, rfl⟩ : ∃ j, i = j + 1 := ⟨i - 1, by omega⟩
    obtain ⟨y, hy⟩ : ∃ y, U j = y := ⟨_, rfl⟩
    have hE : eBu U (j + 1) = orE (eN x.co (-1000) 1000) (orE (eO (decide (y.co < x.co))) (eLit x.lo x.hi)) := by
      unfold eBu
      rw [hx, Nat.add_sub_cancel, hy]
      have : ((j + 1 : Nat) == 0) = false := by simp
      rw [this, Bool.false_or]
    have hp := (hc.c3 (i := j) (by omega) rfl).1
    rw [hy] at hp
    rw [hE, hx]
    clear hE hx hy hc
    have zb := World.block_lt_of_cell? _ _ hp
    have q0 : ((j : Int) + 1 == 0) = false := by simp; omega
    have q1 : IntKind.i64.wrap ((j : Int) + 1 - 1) = j := by rw [show (j : Int) + 1 - 1 = j by omega]; exact IntWalk.i64_in _ (by omega)
    have q2 : IntKind.i64.wrap (j : Int) = j := IntWalk.i64_in _ (by omega)
    have q3 : j < n := by omega
    clear hi h0
    go_enter Try.func142, Try.ntmps142
    go_wp2_with fail
    refine wp_region_held_drew (S := (fun w' => w'.cell? ⟨w.heap.size, 0, none⟩ = some (.int .i64 x.co) ∧ w'.cell? ⟨w.heap.size, 1, none⟩ = some (.int .i64 x.lo) ∧ w'.cell? ⟨w.heap.size, 2, none⟩ = some (.int .i64 x.hi) ∧ w'.cell? ⟨bp, 0, none⟩ = some (.slice (some ⟨b, o, none⟩) n cap) ∧ w'.cell? ⟨b, o + j * 3, none⟩ = some (.int .i64 y.co) ∧ Below w.heap.size w w')) (by kernel_rfl) ?_ (fun hH => ?_)
    · (try dsimp only); (go_split_ands; refine ⟨?_, ?_, ?_, ?_, ?_, ?_⟩ <;> (first | assumption | (go_simp; done) | (go_keep; done) | (refine cell_later hb ?_; first | assumption | (go_keep; done)) | (refine bwS ?_ ?_ hb; (first | assumption | ((repeat (first | exact Below.refl _ _ | assumption | refine Below.drew ?_ | refine Below.drewN ?_ _ | refine blT ?_ | refine blU ?_)); done)); (first | exact Nat.le_refl _ | (simp; done) | (simp; omega))) | ((repeat (first | exact Below.refl _ _ | assumption | refine Below.drew ?_ | refine Below.drewN ?_ _ | refine blT ?_ | refine blU ?_)); done)))
    refine tkY 0 (some 6) ?_ ?_ ?_
    rotate_left
    · intro w hS0; go_simp; (try with_reducible rfl)
    (try simp only [cq])
    refine tkY 1 (some 7) ?_ ?_ ?_
    rotate_left
    · intro w hS0; go_simp; (try with_reducible rfl)
    (try simp only [cq])
    refine tkY 3 (some 9) ?_ ?_ ?_
    rotate_left
    · intro w _; go_simp; (try with_reducible rfl)
    (try simp only [cq])
    refine tkY 4 (some 10) ?_ ?_ ?_
    rotate_left
    · intro w _; go_simp; (try with_reducible rfl)
    (try simp only [cq])
    refine tkY 17 (some 23) ?_ ?_ ?_
    rotate_left
    · intro w hS0; go_simp; (try with_reducible rfl)
    (try simp only [cq])
    refine tkY 18 (some 24) ?_ ?_ ?_
    rotate_left
    · intro w hS0; go_simp; (try with_reducible rfl)
    (try simp only [cq])
    refine wpAnyH_ready (rs := [2]) (by kernel_rfl) (by simp) ?_
    refine arc1 (some 8) fun K hK => ?_
    go_simp
    (refine (number_any _ _ _ _).mono ?_; rintro e w' ⟨rfl, rfl⟩)
    refine hK.out _ _ ?_ (fun hH => ?_)
    · (go_split_ands; refine ⟨?_, ?_, ?_, ?_, ?_, ?_⟩ <;> (first | assumption | (go_simp; done) | (go_keep; done) | (refine cell_later hb ?_; first | assumption | (go_keep; done)) | (refine bwS ?_ ?_ hb; (first | assumption | ((repeat (first | exact Below.refl _ _ | assumption | refine Below.drew ?_ | refine Below.drewN ?_ _ | refine blT ?_ | refine blU ?_)); done)); (first | exact Nat.le_refl _ | (simp; done) | (simp; omega))) | ((repeat (first | exact Below.refl _ _ | assumption | refine Below.drew ?_ | refine Below.drewN ?_ _ | refine blT ?_ | refine blU ?_)); done)))
    clear hK K
    (try simp only [cq])
    refine tkY 5 (some 11) ?_ ?_ ?_
    rotate_left
    · intro w _; go_simp; (try with_reducible rfl)
    (try simp only [cq])
    refine tkY 6 (some 12) ?_ ?_ ?_
    rotate_left
    · intro w hS0; go_simp; (try with_reducible rfl)
    (try simp only [cq])
    refine tkY 7 (some 13) ?_ ?_ ?_
    rotate_left
    · intro w hS0; go_simp; (try with_reducible rfl)
    (try simp only [cq])
    refine tkY 8 (some 14) ?_ ?_ ?_
    rotate_left
    · intro w hS0; go_simp; (try with_reducible rfl)
    (try simp only [cq])
    refine tkY 9 (some 15) ?_ ?_ ?_
    rotate_left
    · intro w _; go_simp; (try with_reducible rfl)
    (try simp only [cq])
    refine tkY 10 (some 16) ?_ ?_ ?_
    rotate_left
    · intro w _; go_simp; (try with_reducible rfl)
    (try simp only [cq])
    refine tkY 11 (some 17) ?_ ?_ ?_
    rotate_left
    · intro w hS0; go_simp; (try with_reducible rfl)
    (try simp only [cq])
    refine tkY 12 (some 18) ?_ ?_ ?_
    rotate_left
    · intro w hS0; go_simp; (try with_reducible rfl)
    (try simp only [cq])
    refine tkY 13 (some 19) ?_ ?_ ?_
    rotate_left
    · intro w hS0; go_simp; (try with_reducible rfl)
    (try simp only [cq])
    refine tkY 14 (some 20) ?_ ?_ ?_
    rotate_left
    · intro w _; go_simp; (try with_reducible rfl)
    (try simp only [cq])
    refine tkY 15 (some 21) ?_ ?_ ?_
    rotate_left
    · intro w _; go_simp; (try with_reducible rfl)
    (try simp only [cq])
    refine wpAnyH_ready (rs := [16]) (by kernel_rfl) (by simp) ?_
    refine arc1 (some 22) fun K hK => ?_
    go_simp
    (refine (order_any _ _).mono ?_; rintro e w' ⟨rfl, rfl⟩)
    refine hK.out _ _ ?_ (fun hH => ?_)
    · (go_split_ands; refine ⟨?_, ?_, ?_, ?_, ?_, ?_⟩ <;> (first | assumption | (go_simp; done) | (go_keep; done) | (refine cell_later hb ?_; first | assumption | (go_keep; done)) | (refine bwS ?_ ?_ hb; (first | assumption | ((repeat (first | exact Below.refl _ _ | assumption | refine Below.drew ?_ | refine Below.drewN ?_ _ | refine blT ?_ | refine blU ?_)); done)); (first | exact Nat.le_refl _ | (simp; done) | (simp; omega))) | ((repeat (first | exact Below.refl _ _ | assumption | refine Below.drew ?_ | refine Below.drewN ?_ _ | refine blT ?_ | refine blU ?_)); done)))
    clear hK K
    (try simp only [cq])
    refine wpAnyH_ready (rs := [19]) (by kernel_rfl) (by simp) ?_
    refine arc1 (some 25) fun K hK => ?_
    go_simp
    (refine (litres_any _ _ _).mono ?_; rintro e w' ⟨rfl, hb⟩)
    refine hK.out _ _ ?_ (fun hH => ?_)
    · (go_split_ands; refine ⟨?_, ?_, ?_, ?_, ?_, ?_⟩ <;> (first | assumption | (go_simp; done) | (go_keep; done) | (refine cell_later hb ?_; first | assumption | (go_keep; done)) | (refine bwS ?_ ?_ hb; (first | assumption | ((repeat (first | exact Below.refl _ _ | assumption | refine Below.drew ?_ | refine Below.drewN ?_ _ | refine blT ?_ | refine blU ?_)); done)); (first | exact Nat.le_refl _ | (simp; done) | (simp; omega))) | ((repeat (first | exact Below.refl _ _ | assumption | refine Below.drew ?_ | refine Below.drewN ?_ _ | refine blT ?_ | refine blU ?_)); done)))
    clear hK K
    (try simp only [cq])
    refine wpAnyH_ready (rs := [20]) (by kernel_rfl) (by simp) ?_
    refine arc1 (some 26) fun K hK => ?_
    go_simp
    refine hK.out _ _ ?_ (fun hH => ?_)
    · (go_split_ands; refine ⟨?_, ?_, ?_, ?_, ?_, ?_⟩ <;> (first | assumption | (go_simp; done) | (go_keep; done) | (refine cell_later hb ?_; first | assumption | (go_keep; done)) | (refine bwS ?_ ?_ hb; (first | assumption | ((repeat (first | exact Below.refl _ _ | assumption | refine Below.drew ?_ | refine Below.drewN ?_ _ | refine blT ?_ | refine blU ?_)); done)); (first | exact Nat.le_refl _ | (simp; done) | (simp; omega))) | ((repeat (first | exact Below.refl _ _ | assumption | refine Below.drew ?_ | refine Below.drewN ?_ _ | refine blT ?_ | refine blU ?_)); done)))
    clear hK K
    (try simp only [cq])
    refine wpAnyH_ready (rs := [21]) (by kernel_rfl) (by simp) ?_
    refine arc1 (some 27) fun K hK => ?_
    go_simp
    (refine (first_bu _ _ x.co x.lo x.hi (decide (y.co < x.co)) _ (by first | (simp; done) | (go_simp; done) | (go_keep; done)) (by first | (simp; done) | (go_simp; done) | (go_keep; done)) (by first | (simp; done) | (go_simp; done) | (go_keep; done))).mono ?_; rintro e w' ⟨rfl, rfl⟩)
    refine hK.out _ _ ?_ (fun hH => ?_)
    · (go_split_ands; refine ⟨?_, ?_, ?_, ?_, ?_, ?_⟩ <;> (first | assumption | (go_simp; done) | (go_keep; done) | (refine cell_later hb ?_; first | assumption | (go_keep; done)) | (refine bwS ?_ ?_ hb; (first | assumption | ((repeat (first | exact Below.refl _ _ | assumption | refine Below.drew ?_ | refine Below.drewN ?_ _ | refine blT ?_ | refine blU ?_)); done)); (first | exact Nat.le_refl _ | (simp; done) | (simp; omega))) | ((repeat (first | exact Below.refl _ _ | assumption | refine Below.drew ?_ | refine Below.drewN ?_ _ | refine blT ?_ | refine blU ?_)); done)))
    clear hK K
    (try simp only [cq])
    refine tkY 22 (some 5) ?_ ?_ ?_
    rotate_left
    · intro w _; go_simp; (try with_reducible rfl)
    (try simp only [cq])
    refine wpAnyH_done (by kernel_rfl) ?_ _
    (try dsimp only [Act.put])
    (try simp only [cq])
    have hBB : Below w.heap.size w _ := hH.2.2.2.2.2
    clear hH
    go_wp2
    go_ret
    exact ⟨rfl, hBB⟩
end Go.Proofs.Ytpeogfcfiabcfaa

/-
  The contract of frost.checkCovers.
-/
import Derived.Test.YtdbiijldincoiaaGreatTail
import Derived.Test.YtdbiijldincoiaaGreatCov
set_option linter.unusedVariables false
set_option linter.unusedSimpArgs false
namespace Go.Proofs.YtdbiijldincoiaaGreat
open Go.RowKit

def covErr (D P0 P1 : Nat → Int) (i : Nat) : Int :=
  if i = 0 then eC (D 0) (P0 0) (P1 0) (D 0 == 0) 1000000 1000000 else eC (D i) (P0 i) (P1 i) (decide (D (i - 1) < D i)) (P0 (i - 1)) (P1 (i - 1))
def eCs (n : Nat) (D P0 P1 : Nat → Int) : Int := if n = 0 then 6 else if 12 < n then 8 else firstNZ (covErr D P0 P1) 0 n

theorem covers_none (a : Option Addr) (cap : Nat) (w : World) :
    Calls Tryz.prog 69 #[.slice a 0 cap] w fun e w' => e = .returned (.int .i64 6) ∧ Below w.heap.size w w' := by
  have hE : eM 0 12 = 0 := rfl
  have hS : eSm 0 = 6 := rfl
  have hO : orE 6 0 = 6 := rfl
  go_enter Tryz.func69, Tryz.ntmps69
  go_wp2_with fail
  refine (some_any _ _).mono ?_
  rintro e w' ⟨rfl, rfl⟩
  go_wp2_with fail
  refine (most_any _ _ _).mono ?_
  rintro e w' ⟨rfl, rfl⟩
  go_wp2_with fail
  refine (first_two _ _ 6 0 _ (by simp) (by simp)).mono ?_
  rintro e w' ⟨rfl, rfl⟩
  go_wp2
  go_ret
  exact ⟨rfl, by (go_split_ands; first | assumption | (repeat (first | exact Below.refl _ _ | assumption | refine Below.drew ?_ | refine Below.drewN ?_ _ | refine blT ?_ | refine blU ?_)))⟩

theorem covers_many (a : Option Addr) (n cap : Nat) (w : World) (hn : 12 < n) (hl : n ≤ 9223372036854775807) :
    Calls Tryz.prog 69 #[.slice a n cap] w fun e w' => e = .returned (.int .i64 8) ∧ Below w.heap.size w w' := by
  have hE : eM n 12 = 8 := by unfold eM; rw [if_pos (by omega)]
  have hS : eSm n = 0 := by unfold eSm; rw [if_neg (by omega)]
  have hO : orE 0 8 = 8 := rfl
  go_enter Tryz.func69, Tryz.ntmps69
  go_wp2_with fail
  refine (some_any _ _).mono ?_
  rintro e w' ⟨rfl, rfl⟩
  go_wp2_with fail
  refine (most_any _ _ _).mono ?_
  rintro e w' ⟨rfl, rfl⟩
  go_wp2_with fail
  refine (first_two _ _ 0 8 _ (by simp) (by simp)).mono ?_
  rintro e w' ⟨rfl, rfl⟩
  go_wp2
  go_ret
  exact ⟨rfl, by (go_split_ands; first | assumption | (repeat (first | exact Below.refl _ _ | assumption | refine Below.drew ?_ | refine Below.drewN ?_ _ | refine blT ?_ | refine blU ?_)))⟩

def c0E (D P0 P1 : Nat → Int) : Int := eC (D 0) (P0 0) (P1 0) (D 0 == 0) 1000000 1000000

theorem covers_bad (b o n cap : Nat) (D P0 P1 : Nat → Int) (w : World) (h1 : 1 ≤ n) (h12 : n ≤ 12)
    (c0 : w.cell? ⟨b, o, none⟩ = some (.int .i64 (D 0))) (c1 : w.cell? ⟨b, o + 1, none⟩ = some (.int .i64 (P0 0))) (c2 : w.cell? ⟨b, o + 2, none⟩ = some (.int .i64 (P1 0))) (he : (c0E D P0 P1 != 0) = true) :
    Calls Tryz.prog 69 #[.slice (some ⟨b, o, none⟩) n cap] w fun e w' => e = .returned (.int .i64 (c0E D P0 P1)) ∧ Below w.heap.size w w' := by
  have hE : eM n 12 = 0 := by unfold eM; rw [if_neg (by omega)]
  have hS : eSm n = 0 := by unfold eSm; rw [if_neg (by omega)]
  have hO : orE 0 0 = 0 := rfl
  have hz : 0 < n := by omega
  have hC : ∀ W, Calls Tryz.prog 93 #[.agg #[.int .i64 (D 0), .int .i64 (P0 0), .int .i64 (P1 0)], .bool (D 0 == 0), .agg #[.int .i64 1000000, .int .i64 1000000]] W fun e w' => e = .returned (.int .i64 (c0E D P0 P1)) ∧ Below W.heap.size W w' := fun W => cover_any _ _ _ _ _ _ W
  have HC : Hid _ := hC
  clear hC
  go_enter Tryz.func69, Tryz.ntmps69
  have hlt0 := World.block_lt_of_cell? _ _ c0
  go_wp2_with fail
  refine (some_any _ _).mono ?_
  rintro e w' ⟨rfl, rfl⟩
  go_wp2_with fail
  refine (most_any _ _ _).mono ?_
  rintro e w' ⟨rfl, rfl⟩
  go_wp2_with fail
  refine (first_two _ _ 0 0 _ (by simp) (by simp)).mono ?_
  rintro e w' ⟨rfl, rfl⟩
  go_wp2_with fail
  refine wp_region_held_drew (S := (fun w' => w'.cell? ⟨b, o, none⟩ = some (.int .i64 (D 0)) ∧ w'.cell? ⟨b, o + 1, none⟩ = some (.int .i64 (P0 0)) ∧ w'.cell? ⟨b, o + 2, none⟩ = some (.int .i64 (P1 0)) ∧ Below w.heap.size w w')) (by kernel_rfl) ?_ (fun hH => ?_)
  · (try dsimp only); (go_split_ands; refine ⟨?_, ?_, ?_, ?_⟩ <;> (first | assumption | (go_simp; done) | (go_keep; done) | (refine cell_later hb ?_; first | assumption | (go_keep; done)) | (refine bwS ?_ ?_ hb; (first | assumption | ((repeat (first | exact Below.refl _ _ | assumption | refine Below.drew ?_ | refine Below.drewN ?_ _ | refine blT ?_ | refine blU ?_)); done)); (first | exact Nat.le_refl _ | (simp; done) | (simp; omega))) | ((repeat (first | exact Below.refl _ _ | assumption | refine Below.drew ?_ | refine Below.drewN ?_ _ | refine blT ?_ | refine blU ?_)); done)))
  refine tkY 0 (some 20) ?_ ?_ ?_
  rotate_left
  · intro w _; go_simp; (try with_reducible rfl)
  (try simp only [cq])
  refine tkY 1 (some 21) ?_ ?_ ?_
  rotate_left
  · intro w hS0; go_simp; (try with_reducible rfl)
  (try simp only [cq])
  refine tkY 2 (some 22) ?_ ?_ ?_
  rotate_left
  · intro w hS0; go_simp; (try with_reducible rfl)
  (try simp only [cq])
  refine tkY 3 (some 23) ?_ ?_ ?_
  rotate_left
  · intro w _; go_simp; (try with_reducible rfl)
  (try simp only [cq])
  refine tkY 4 (some 24) ?_ ?_ ?_
  rotate_left
  · intro w hS0; go_simp; (try with_reducible rfl)
  (try simp only [cq])
  refine tkY 5 (some 25) ?_ ?_ ?_
  rotate_left
  · intro w hS0; go_simp; (try with_reducible rfl)
  (try simp only [cq])
  refine tkY 6 (some 26) ?_ ?_ ?_
  rotate_left
  · intro w hS0; go_simp; (try with_reducible rfl)
  (try simp only [cq])
  refine tkY 7 (some 27) ?_ ?_ ?_
  rotate_left
  · intro w _; go_simp; (try with_reducible rfl)
  (try simp only [cq])
  refine tkY 8 (some 28) ?_ ?_ ?_
  rotate_left
  · intro w _; go_simp; (try with_reducible rfl)
  (try simp only [cq])
  refine wpAnyH_ready (rs := [9]) (by kernel_rfl) (by simp) ?_
  refine arc1 (some 29) fun K hK => ?_
  go_simp
  (refine (HC.out _).mono ?_; rintro e w' ⟨rfl, hb⟩)
  refine hK.out _ _ ?_ (fun hH => ?_)
  · (go_split_ands; refine ⟨?_, ?_, ?_, ?_⟩ <;> (first | assumption | (go_simp; done) | (go_keep; done) | (refine cell_later hb ?_; first | assumption | (go_keep; done)) | (refine bwS ?_ ?_ hb; (first | assumption | ((repeat (first | exact Below.refl _ _ | assumption | refine Below.drew ?_ | refine Below.drewN ?_ _ | refine blT ?_ | refine blU ?_)); done)); (first | exact Nat.le_refl _ | (simp; done) | (simp; omega))) | ((repeat (first | exact Below.refl _ _ | assumption | refine Below.drew ?_ | refine Below.drewN ?_ _ | refine blT ?_ | refine blU ?_)); done)))
  clear hK K
  (try simp only [cq])
  refine tkY 10 (some 4) ?_ ?_ ?_
  rotate_left
  · intro w _; go_simp; (try with_reducible rfl)
  (try simp only [cq])
  refine wpAnyH_done (by kernel_rfl) ?_ _
  (try dsimp only [Act.put])
  (try simp only [cq])
  go_wp2
  go_ret
  exact ⟨rfl, by (go_split_ands; first | assumption | (repeat (first | exact Below.refl _ _ | assumption | refine Below.drew ?_ | refine Below.drewN ?_ _ | refine blT ?_ | refine blU ?_)))⟩

theorem covers_one (b o cap : Nat) (D P0 P1 : Nat → Int) (w : World) (hcap : 1 ≤ cap)
    (c0 : w.cell? ⟨b, o, none⟩ = some (.int .i64 (D 0))) (c1 : w.cell? ⟨b, o + 1, none⟩ = some (.int .i64 (P0 0))) (c2 : w.cell? ⟨b, o + 2, none⟩ = some (.int .i64 (P1 0))) (he : (c0E D P0 P1 != 0) = false) :
    Calls Tryz.prog 69 #[.slice (some ⟨b, o, none⟩) 1 cap] w fun e w' => e = .returned (.int .i64 0) ∧ Below w.heap.size w w' := by
  have hE : eM 1 12 = 0 := rfl
  have hS : eSm 1 = 0 := rfl
  have hO : orE 0 0 = 0 := rfl
  have hC : ∀ W, Calls Tryz.prog 93 #[.agg #[.int .i64 (D 0), .int .i64 (P0 0), .int .i64 (P1 0)], .bool (D 0 == 0), .agg #[.int .i64 1000000, .int .i64 1000000]] W fun e w' => e = .returned (.int .i64 (c0E D P0 P1)) ∧ Below W.heap.size W w' := fun W => cover_any _ _ _ _ _ _ W
  have HC : Hid _ := hC
  clear hC
  go_enter Tryz.func69, Tryz.ntmps69
  have hlt0 := World.block_lt_of_cell? _ _ c0
  go_wp2_with fail
  refine (some_any _ _).mono ?_
  rintro e w' ⟨rfl, rfl⟩
  go_wp2_with fail
  refine (most_any _ _ _).mono ?_
  rintro e w' ⟨rfl, rfl⟩
  go_wp2_with fail
  refine (first_two _ _ 0 0 _ (by simp) (by simp)).mono ?_
  rintro e w' ⟨rfl, rfl⟩
  go_wp2_with fail
  refine wp_region_held_drew (S := (fun w' => w'.cell? ⟨b, o, none⟩ = some (.int .i64 (D 0)) ∧ w'.cell? ⟨b, o + 1, none⟩ = some (.int .i64 (P0 0)) ∧ w'.cell? ⟨b, o + 2, none⟩ = some (.int .i64 (P1 0)) ∧ Below w.heap.size w w')) (by kernel_rfl) ?_ (fun hH => ?_)
  · (try dsimp only); (go_split_ands; refine ⟨?_, ?_, ?_, ?_⟩ <;> (first | assumption | (go_simp; done) | (go_keep; done) | (refine cell_later hb ?_; first | assumption | (go_keep; done)) | (refine bwS ?_ ?_ hb; (first | assumption | ((repeat (first | exact Below.refl _ _ | assumption | refine Below.drew ?_ | refine Below.drewN ?_ _ | refine blT ?_ | refine blU ?_)); done)); (first | exact Nat.le_refl _ | (simp; done) | (simp; omega))) | ((repeat (first | exact Below.refl _ _ | assumption | refine Below.drew ?_ | refine Below.drewN ?_ _ | refine blT ?_ | refine blU ?_)); done)))
  refine tkY 0 (some 20) ?_ ?_ ?_
  rotate_left
  · intro w _; go_simp; (try with_reducible rfl)
  (try simp only [cq])
  refine tkY 1 (some 21) ?_ ?_ ?_
  rotate_left
  · intro w hS0; go_simp; (try with_reducible rfl)
  (try simp only [cq])
  refine tkY 2 (some 22) ?_ ?_ ?_
  rotate_left
  · intro w hS0; go_simp; (try with_reducible rfl)
  (try simp only [cq])
  refine tkY 3 (some 23) ?_ ?_ ?_
  rotate_left
  · intro w _; go_simp; (try with_reducible rfl)
  (try simp only [cq])
  refine tkY 4 (some 24) ?_ ?_ ?_
  rotate_left
  · intro w hS0; go_simp; (try with_reducible rfl)
  (try simp only [cq])
  refine tkY 5 (some 25) ?_ ?_ ?_
  rotate_left
  · intro w hS0; go_simp; (try with_reducible rfl)
  (try simp only [cq])
  refine tkY 6 (some 26) ?_ ?_ ?_
  rotate_left
  · intro w hS0; go_simp; (try with_reducible rfl)
  (try simp only [cq])
  refine tkY 7 (some 27) ?_ ?_ ?_
  rotate_left
  · intro w _; go_simp; (try with_reducible rfl)
  (try simp only [cq])
  refine tkY 8 (some 28) ?_ ?_ ?_
  rotate_left
  · intro w _; go_simp; (try with_reducible rfl)
  (try simp only [cq])
  refine wpAnyH_ready (rs := [9]) (by kernel_rfl) (by simp) ?_
  refine arc1 (some 29) fun K hK => ?_
  go_simp
  (refine (HC.out _).mono ?_; rintro e w' ⟨rfl, hb⟩)
  refine hK.out _ _ ?_ (fun hH => ?_)
  · (go_split_ands; refine ⟨?_, ?_, ?_, ?_⟩ <;> (first | assumption | (go_simp; done) | (go_keep; done) | (refine cell_later hb ?_; first | assumption | (go_keep; done)) | (refine bwS ?_ ?_ hb; (first | assumption | ((repeat (first | exact Below.refl _ _ | assumption | refine Below.drew ?_ | refine Below.drewN ?_ _ | refine blT ?_ | refine blU ?_)); done)); (first | exact Nat.le_refl _ | (simp; done) | (simp; omega))) | ((repeat (first | exact Below.refl _ _ | assumption | refine Below.drew ?_ | refine Below.drewN ?_ _ | refine blT ?_ | refine blU ?_)); done)))
  clear hK K
  (try simp only [cq])
  refine tkY 10 (some 4) ?_ ?_ ?_
  rotate_left
  · intro w _; go_simp; (try with_reducible rfl)
  (try simp only [cq])
  refine wpAnyH_done (by kernel_rfl) ?_ _
  (try dsimp only [Act.put])
  (try simp only [cq])
  go_wp2_with fail
  all_goals
    refine wp_loop_rounds 1 ?_
    rw [rounds_succ]
    go_wp2
    go_ret
    exact ⟨rfl, by (go_split_ands; first | assumption | (repeat (first | exact Below.refl _ _ | assumption | refine Below.drew ?_ | refine Below.drewN ?_ _ | refine blT ?_ | refine blU ?_)))⟩

set_option maxHeartbeats 1000000 in
theorem covers_more (b o n cap : Nat) (D P0 P1 : Nat → Int) (w : World) (h1 : 2 ≤ n) (h12 : n ≤ 12) (hcap : n ≤ cap) (he : (c0E D P0 P1 != 0) = false)
    (hc : ∀ i, i < n → w.cell? ⟨b, o + i * 3, none⟩ = some (.int .i64 (D i)) ∧ w.cell? ⟨b, o + i * 3 + 1, none⟩ = some (.int .i64 (P0 i)) ∧ w.cell? ⟨b, o + i * 3 + 2, none⟩ = some (.int .i64 (P1 i))) :
    Calls Tryz.prog 69 #[.slice (some ⟨b, o, none⟩) n cap] w fun e w' => e = .returned (.int .i64 (firstNZ (covErr D P0 P1) 1 (n - 1))) ∧ Below w.heap.size w w' := by
  have hE : eM n 12 = 0 := by unfold eM; rw [if_neg (by omega)]
  have hS : eSm n = 0 := by unfold eSm; rw [if_neg (by omega)]
  have hO : orE 0 0 = 0 := rfl
  have hz : 0 < n := by omega
  have hcp : (cap = 1) = False := by simp; omega
  obtain ⟨c0, c1, c2⟩ := hc 0 (by omega)
  simp only [Nat.zero_mul, Nat.add_zero] at c0 c1 c2
  have hlt := World.block_lt_of_cell? _ _ c0
  have hC : ∀ W, Calls Tryz.prog 93 #[.agg #[.int .i64 (D 0), .int .i64 (P0 0), .int .i64 (P1 0)], .bool (D 0 == 0), .agg #[.int .i64 1000000, .int .i64 1000000]] W fun e w' => e = .returned (.int .i64 (c0E D P0 P1)) ∧ Below W.heap.size W w' := fun W => cover_any _ _ _ _ _ _ W
  have HF : Hid _ := hC
  have HC : Hid _ := hc
  clear hc hC
  go_enter Tryz.func69, Tryz.ntmps69
  have hlt0 := World.block_lt_of_cell? _ _ c0
  go_wp2_with fail
  refine (some_any _ _).mono ?_
  rintro e w' ⟨rfl, rfl⟩
  go_wp2_with fail
  refine (most_any _ _ _).mono ?_
  rintro e w' ⟨rfl, rfl⟩
  go_wp2_with fail
  refine (first_two _ _ 0 0 _ (by simp) (by simp)).mono ?_
  rintro e w' ⟨rfl, rfl⟩
  go_wp2_with fail
  refine wp_region_held_drew (S := (fun w' => w'.cell? ⟨b, o, none⟩ = some (.int .i64 (D 0)) ∧ w'.cell? ⟨b, o + 1, none⟩ = some (.int .i64 (P0 0)) ∧ w'.cell? ⟨b, o + 2, none⟩ = some (.int .i64 (P1 0)) ∧ Below w.heap.size w w')) (by kernel_rfl) ?_ (fun hH => ?_)
  · (try dsimp only); (go_split_ands; refine ⟨?_, ?_, ?_, ?_⟩ <;> (first | assumption | (go_simp; done) | (go_keep; done) | (refine cell_later hb ?_; first | assumption | (go_keep; done)) | (refine bwS ?_ ?_ hb; (first | assumption | ((repeat (first | exact Below.refl _ _ | assumption | refine Below.drew ?_ | refine Below.drewN ?_ _ | refine blT ?_ | refine blU ?_)); done)); (first | exact Nat.le_refl _ | (simp; done) | (simp; omega))) | ((repeat (first | exact Below.refl _ _ | assumption | refine Below.drew ?_ | refine Below.drewN ?_ _ | refine blT ?_ | refine blU ?_)); done)))
  refine tkY 0 (some 20) ?_ ?_ ?_
  rotate_left
  · intro w _; go_simp; (try with_reducible rfl)
  (try simp only [cq])
  refine tkY 1 (some 21) ?_ ?_ ?_
  rotate_left
  · intro w hS0; go_simp; (try with_reducible rfl)
  (try simp only [cq])
  refine tkY 2 (some 22) ?_ ?_ ?_
  rotate_left
  · intro w hS0; go_simp; (try with_reducible rfl)
  (try simp only [cq])
  refine tkY 3 (some 23) ?_ ?_ ?_
  rotate_left
  · intro w _; go_simp; (try with_reducible rfl)
  (try simp only [cq])
  refine tkY 4 (some 24) ?_ ?_ ?_
  rotate_left
  · intro w hS0; go_simp; (try with_reducible rfl)
  (try simp only [cq])
  refine tkY 5 (some 25) ?_ ?_ ?_
  rotate_left
  · intro w hS0; go_simp; (try with_reducible rfl)
  (try simp only [cq])
  refine tkY 6 (some 26) ?_ ?_ ?_
  rotate_left
  · intro w hS0; go_simp; (try with_reducible rfl)
  (try simp only [cq])
  refine tkY 7 (some 27) ?_ ?_ ?_
  rotate_left
  · intro w _; go_simp; (try with_reducible rfl)
  (try simp only [cq])
  refine tkY 8 (some 28) ?_ ?_ ?_
  rotate_left
  · intro w _; go_simp; (try with_reducible rfl)
  (try simp only [cq])
  refine wpAnyH_ready (rs := [9]) (by kernel_rfl) (by simp) ?_
  refine arc1 (some 29) fun K hK => ?_
  go_simp
  (refine (HF.out _).mono ?_; rintro e w' ⟨rfl, hb⟩)
  refine hK.out _ _ ?_ (fun hH => ?_)
  · (go_split_ands; refine ⟨?_, ?_, ?_, ?_⟩ <;> (first | assumption | (go_simp; done) | (go_keep; done) | (refine cell_later hb ?_; first | assumption | (go_keep; done)) | (refine bwS ?_ ?_ hb; (first | assumption | ((repeat (first | exact Below.refl _ _ | assumption | refine Below.drew ?_ | refine Below.drewN ?_ _ | refine blT ?_ | refine blU ?_)); done)); (first | exact Nat.le_refl _ | (simp; done) | (simp; omega))) | ((repeat (first | exact Below.refl _ _ | assumption | refine Below.drew ?_ | refine Below.drewN ?_ _ | refine blT ?_ | refine blU ?_)); done)))
  clear hK K
  (try simp only [cq])
  refine tkY 10 (some 4) ?_ ?_ ?_
  rotate_left
  · intro w _; go_simp; (try with_reducible rfl)
  (try simp only [cq])
  refine wpAnyH_done (by kernel_rfl) ?_ _
  (try dsimp only [Act.put])
  (try simp only [cq])
  go_wp2_with fail
  go_loopw [36] (fun i wr => ∃ k : Nat, k ≤ n - 1 ∧ i = .int .i64 k ∧ firstNZ (covErr D P0 P1) 1 (n - 1) = firstNZ (covErr D P0 P1) (k + 1) (n - (k + 1)) ∧ Below w.heap.size w wr) (fun i _ => (n - 1) - (intOf i).toNat)
  case atStart => exact ⟨0, Nat.zero_le _, rfl, rfl, by (go_split_ands; first | assumption | (repeat (first | exact Below.refl _ _ | assumption | refine Below.drew ?_ | refine Below.drewN ?_ _ | refine blT ?_ | refine blU ?_)))⟩
  case round =>
    obtain ⟨k, hk, rfl, hd, hB⟩ := hrel
    have HD : Hid _ := hd
    clear hd
    by_cases hlt2 : k < n - 1
    · obtain ⟨a0, a1, a2⟩ := HC.out k (by omega)
      obtain ⟨b0, b1, b2⟩ := HC.out (k + 1) (by omega)
      rw [show o + (k + 1) * 3 = o + 3 + k * 3 by omega] at b0 b1 b2
      replace a0 := cell_later hB a0
      replace a1 := cell_later hB a1
      replace a2 := cell_later hB a2
      replace b0 := cell_later hB b0
      replace b1 := cell_later hB b1
      replace b2 := cell_later hB b2
      have hbs := World.block_lt_of_cell? _ _ a0
      have hws : w.heap.size ≤ wr.heap.size := hB.size
      clear c0 c1 c2 hb hH
      have hC2 : ∀ W, Calls Tryz.prog 93 #[.agg #[.int .i64 (D (k + 1)), .int .i64 (P0 (k + 1)), .int .i64 (P1 (k + 1))], .bool (decide (D k < D (k + 1))), .agg #[.int .i64 (P0 k), .int .i64 (P1 k)]] W fun e w' => e = .returned (.int .i64 (covErr D P0 P1 (k + 1))) ∧ Below W.heap.size W w' := fun W => (cover_any _ _ _ _ _ _ W).mono fun e w' h => by simpa [covErr] using h
      have HC2 : Hid _ := hC2
      clear hC2
      by_cases hz2 : covErr D P0 P1 (k + 1) = 0
      · have H0 : Hid _ := firstNZ_step0 (covErr D P0 P1) n (k + 1) (by omega) hz2
        have hz3 : (covErr D P0 P1 (k + 1) != 0) = false := by simpa using hz2
        clear hz2
        go_wp2_with (go_at_call 93; refine (HC2.out _).mono ?_; rintro e w2 ⟨rfl, hb2⟩)
        go_roundw
        case rel => exact ⟨k + 1, by omega, by go_num, by rw [HD.out, H0.out], bwS (by (go_split_ands; first | assumption | (repeat (first | exact Below.refl _ _ | assumption | refine Below.drew ?_ | refine Below.drewN ?_ _ | refine blT ?_ | refine blU ?_)))) (Nat.le_refl _) hb2⟩
        case measure => simp [intOf]; omega
      · have H0 : Hid _ := firstNZ_stepN (covErr D P0 P1) n (k + 1) (by omega) hz2
        have hz3 : (covErr D P0 P1 (k + 1) != 0) = true := by simpa using hz2
        clear hz2
        go_wp2_with (go_at_call 93; refine (HC2.out _).mono ?_; rintro e w2 ⟨rfl, hb2⟩)
        go_ret
        exact ⟨by rw [HD.out, H0.out]; rfl, bwS (by (go_split_ands; first | assumption | (repeat (first | exact Below.refl _ _ | assumption | refine Below.drew ?_ | refine Below.drewN ?_ _ | refine blT ?_ | refine blU ?_)))) (Nat.le_refl _) hb2⟩
    · go_wp2
      go_ret
      have : n - (k + 1) = 0 := by omega
      exact ⟨by rw [HD.out, this]; rfl, hB⟩

def CovAt (w : World) (v : Value) (n : Nat) (D P0 P1 : Nat → Int) : Prop :=
  ∃ a cap, v = .slice a n cap ∧ n ≤ cap ∧ cap ≤ 9223372036854775807 ∧ (0 < n → ∃ b o, a = some ⟨b, o, none⟩ ∧
    ∀ i, i < n → w.cell? ⟨b, o + i * 3, none⟩ = some (.int .i64 (D i)) ∧ w.cell? ⟨b, o + i * 3 + 1, none⟩ = some (.int .i64 (P0 i)) ∧ w.cell? ⟨b, o + i * 3 + 2, none⟩ = some (.int .i64 (P1 i)))

theorem CovAt.later {w w' : World} {v : Value} {n : Nat} {D P0 P1 : Nat → Int} (h : CovAt w v n D P0 P1) (hb : Below w.heap.size w w') : CovAt w' v n D P0 P1 := by
  obtain ⟨a, cap, hv, h1, h2, h3⟩ := h
  refine ⟨a, cap, hv, h1, h2, fun h0 => ?_⟩
  obtain ⟨b, o, ha, hc⟩ := h3 h0
  exact ⟨b, o, ha, fun i hi => ⟨cell_later hb (hc i hi).1, cell_later hb (hc i hi).2.1, cell_later hb (hc i hi).2.2⟩⟩

theorem covers_any (v : Value) (n : Nat) (D P0 P1 : Nat → Int) (w : World) (h : CovAt w v n D P0 P1) :
    Calls Tryz.prog 69 #[v] w fun e w' => e = .returned (.int .i64 (eCs n D P0 P1)) ∧ Below w.heap.size w w' := by
  obtain ⟨a, cap, rfl, h1, h2, h3⟩ := h
  unfold eCs
  by_cases h0 : n = 0
  · subst h0
    rw [if_pos rfl]
    exact covers_none a cap w
  rw [if_neg h0]
  by_cases h12 : 12 < n
  · rw [if_pos h12]
    exact covers_many a n cap w h12 (by omega)
  rw [if_neg h12]
  obtain ⟨b, o, rfl, hc⟩ := h3 (by omega)
  have hcc := hc 0 (by omega)
  simp only [Nat.zero_mul, Nat.add_zero] at hcc
  have e0 : covErr D P0 P1 0 = c0E D P0 P1 := by simp [covErr, c0E]
  by_cases he : c0E D P0 P1 = 0
  · have hE : firstNZ (covErr D P0 P1) 0 n = firstNZ (covErr D P0 P1) 1 (n - 1) := firstNZ_step0 _ n 0 (by omega) (e0.trans he)
    have he' : (c0E D P0 P1 != 0) = false := by simpa using he
    by_cases h1n : n = 1
    · subst h1n
      rw [hE]
      exact covers_one b o cap D P0 P1 w h1 hcc.1 hcc.2.1 hcc.2.2 he'
    · rw [hE]
      exact covers_more b o n cap D P0 P1 w (by omega) (by omega) h1 he' hc
  · have hE : firstNZ (covErr D P0 P1) 0 n = c0E D P0 P1 := (firstNZ_stepN (covErr D P0 P1) n 0 (by omega) (by rw [e0]; exact he)).trans e0
    rw [hE]
    exact covers_bad b o n cap D P0 P1 w (by omega) (by omega) hcc.1 hcc.2.1 hcc.2.2 (by simpa using he)
end Go.Proofs.YtdbiijldincoiaaGreat

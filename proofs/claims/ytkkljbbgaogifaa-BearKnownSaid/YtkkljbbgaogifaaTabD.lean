/-
  The check of a whole table (package bear), exact for any list of pairs.
-/
import Derived.Test.YtkkljbbgaogifaaTail
import Derived.Test.YtkkljbbgaogifaaTabC
import Derived.IntWalk
set_option linter.unusedVariables false
set_option linter.unusedSimpArgs false
namespace Go.Proofs.Ytkkljbbgaogifaa
open Go.RowKit

set_option maxHeartbeats 2000000 in
theorem tab_one (bt b o n cap : Nat) (F P : Nat → Int) (i : Nat) (hi : i < n) (hcap : n ≤ cap) (hl : cap ≤ 9223372036854775807) (w : World) (hv : w.cell? ⟨bt, 0, none⟩ = some (.slice (some ⟨b, o, none⟩) n cap))
    (hc : ∀ i, i < n → w.cell? ⟨b, o + i * 2, none⟩ = some (.int .i64 (F i)) ∧ w.cell? ⟨b, o + i * 2 + 1, none⟩ = some (.int .i64 (P i))) :
    Calls Try.prog 117 #[.int .i64 i, .agg #[.int .i64 (F i), .int .i64 (P i)], .pointer (some ⟨bt, 0, none⟩)] w fun e w' => e = .returned (.int .i64 (tabErr F P i)) ∧ Below w.heap.size w w' := by
  by_cases h0 : i = 0
  · subst h0
    rw [show tabErr F P 0 = eT0 (F 0) (P 0) from rfl, show ((0 : Nat) : Int) = 0 from rfl]
    go_enter Try.func117, Try.ntmps117
    go_wp2_with fail
    refine (tfirst_any _ _ _).mono ?_
    rintro e w' ⟨rfl, hb⟩
    have hBB : Below w.heap.size w w' := bwS (by (repeat (first | exact Below.refl _ _ | assumption | refine Below.drew ?_ | refine Below.drewN ?_ _ | refine blT ?_ | refine blU ?_))) (by first | exact Nat.le_refl _ | (simp; done) | (simp; omega)) hb
    clear hb
    go_wp2
    go_ret
    exact ⟨rfl, hBB⟩
  · obtain ⟨i, rfl⟩ : ∃ j, i = j + 1 := ⟨i - 1, by omega⟩
    obtain ⟨a0, a1⟩ := hc i (by omega)
    clear hc h0
    have zt := World.block_lt_of_cell? _ _ hv
    have za := World.block_lt_of_cell? _ _ a0
    have H := Lib.hid (tnext_any (F (i + 1)) (P (i + 1)) (F i) (P i))
    rw [show tabErr F P (i + 1) = eT1 (F (i + 1)) (P (i + 1)) (F i) (P i) from rfl]
    generalize eT1 (F (i + 1)) (P (i + 1)) (F i) (P i) = er at H ⊢
    have hne : ((i : Int) + 1 == 0) = false := by simp; omega
    have e1 : IntKind.i64.wrap (i : Int) = (i : Int) := IntWalk.i64_in _ (by omega)
    have hlt : (i : Int) < (n : Int) := by omega
    go_enter Try.func117, Try.ntmps117
    go_wp2_with fail
    refine wp_region_held_drew (S := (fun w' => w'.cell? ⟨w.heap.size, 0, none⟩ = some (.int .i64 (F (i + 1))) ∧ w'.cell? ⟨w.heap.size, 1, none⟩ = some (.int .i64 (P (i + 1))) ∧ w'.cell? ⟨bt, 0, none⟩ = some (.slice (some ⟨b, o, none⟩) n cap) ∧ w'.cell? ⟨b, o + i * 2, none⟩ = some (.int .i64 (F i)) ∧ w'.cell? ⟨b, o + i * 2 + 1, none⟩ = some (.int .i64 (P i)) ∧ Below w.heap.size w w')) (by kernel_rfl) ?_ (fun hH => ?_)
    · (try dsimp only); (go_split_ands; refine ⟨?_, ?_, ?_, ?_, ?_, ?_⟩ <;> (first | assumption | (go_simp; done) | (go_keep; done) | (refine cell_later hb ?_; first | assumption | (go_keep; done)) | (refine bwS ?_ ?_ hb; (first | assumption | ((repeat (first | exact Below.refl _ _ | assumption | refine Below.drew ?_ | refine Below.drewN ?_ _ | refine blT ?_ | refine blU ?_)); done)); (first | exact Nat.le_refl _ | (simp; done) | (simp; omega))) | ((repeat (first | exact Below.refl _ _ | assumption | refine Below.drew ?_ | refine Below.drewN ?_ _ | refine blT ?_ | refine blU ?_)); done)))
    refine tkY 0 (some 10) ?_ ?_ ?_
    rotate_left
    · intro w hS0; go_simp; (try with_reducible rfl)
    (try simp only [cq])
    refine tkY 1 (some 11) ?_ ?_ ?_
    rotate_left
    · intro w hS0; go_simp; (try with_reducible rfl)
    (try simp only [cq])
    refine tkY 2 (some 12) ?_ ?_ ?_
    rotate_left
    · intro w _; go_simp; (try with_reducible rfl)
    (try simp only [cq])
    refine tkY 3 (some 13) ?_ ?_ ?_
    rotate_left
    · intro w _; go_simp; (try with_reducible rfl)
    (try simp only [cq])
    refine tkY 4 (some 14) ?_ ?_ ?_
    rotate_left
    · intro w hS0; go_simp; (try with_reducible rfl)
    (try simp only [cq])
    refine tkY 5 (some 15) ?_ ?_ ?_
    rotate_left
    · intro w hS0; go_simp; (try with_reducible rfl)
    (try simp only [cq])
    refine wpAnyH_ready (rs := [6]) (by kernel_rfl) (by simp) ?_
    refine arc1 (some 16) fun K hK => ?_
    go_simp
    (refine (H.out _).mono ?_; rintro e w' ⟨rfl, hb⟩)
    refine hK.out _ _ ?_ (fun hH => ?_)
    · (go_split_ands; refine ⟨?_, ?_, ?_, ?_, ?_, ?_⟩ <;> (first | assumption | (go_simp; done) | (go_keep; done) | (refine cell_later hb ?_; first | assumption | (go_keep; done)) | (refine bwS ?_ ?_ hb; (first | assumption | ((repeat (first | exact Below.refl _ _ | assumption | refine Below.drew ?_ | refine Below.drewN ?_ _ | refine blT ?_ | refine blU ?_)); done)); (first | exact Nat.le_refl _ | (simp; done) | (simp; omega))) | ((repeat (first | exact Below.refl _ _ | assumption | refine Below.drew ?_ | refine Below.drewN ?_ _ | refine blT ?_ | refine blU ?_)); done)))
    clear hK K
    (try simp only [cq])
    refine tkY 7 (some 5) ?_ ?_ ?_
    rotate_left
    · intro w _; go_simp; (try with_reducible rfl)
    (try simp only [cq])
    refine wpAnyH_done (by kernel_rfl) ?_ _
    (try dsimp only [Act.put])
    (try simp only [cq])
    have hBB : Below w.heap.size w _ := hH.2.2.2.2.2
    clear hH
    go_wp2
    go_ret
    exact ⟨rfl, hBB⟩

theorem tl_many (f : Value) (a : Option Addr) (n cap : Nat) (w : World) (hn : 20 < n) (hl : n ≤ 9223372036854775807) :
    Calls Try.prog 116 #[.slice a n cap, .int .i64 20, f] w fun e w' => e = .returned (.int .i64 8) ∧ w = w' := by
  have hE : eM n 20 = 8 := by unfold eM; rw [if_pos (by omega)]
  go_enter Try.func116, Try.ntmps116
  go_wp2_with (go_at_call 134; refine (most_any _ _ _).mono ?_; rintro e w' ⟨rfl, rfl⟩)
  go_ret
  exact ⟨rfl, rfl⟩

theorem tl_none (f : Value) (a : Option Addr) (cap : Nat) (w : World) :
    Calls Try.prog 116 #[.slice a 0 cap, .int .i64 20, f] w fun e w' => e = .returned (.int .i64 0) ∧ w = w' := by
  have hE : eM 0 20 = 0 := rfl
  go_enter Try.func116, Try.ntmps116
  go_wp2_with (go_at_call 134; refine (most_any _ _ _).mono ?_; rintro e w' ⟨rfl, rfl⟩)
  refine wp_loop_rounds 1 ?_
  rw [rounds_succ]
  go_wp2
  go_ret
  exact ⟨rfl, rfl⟩

set_option maxHeartbeats 1000000 in
theorem tl_some (bt b o n cap : Nat) (F P : Nat → Int) (w : World) (h20 : n ≤ 20) (hcap : n ≤ cap) (hl : cap ≤ 9223372036854775807) (hv : w.cell? ⟨bt, 0, none⟩ = some (.slice (some ⟨b, o, none⟩) n cap))
    (hc : ∀ i, i < n → w.cell? ⟨b, o + i * 2, none⟩ = some (.int .i64 (F i)) ∧ w.cell? ⟨b, o + i * 2 + 1, none⟩ = some (.int .i64 (P i))) :
    Calls Try.prog 116 #[.slice (some ⟨b, o, none⟩) n cap, .int .i64 20, .func (.func 117) #[] #[.pointer (some ⟨bt, 0, none⟩)]] w fun e w' => e = .returned (.int .i64 (firstNZ (tabErr F P) 0 n)) ∧ Below w.heap.size w w' := by
  have hE : eM n 20 = 0 := by unfold eM; rw [if_neg (by omega)]
  have HC : Hid _ := hc
  have HK : Hid (∀ (i : Nat) (_ : i < n) (W : World), Below w.heap.size w W → Calls Try.prog 117 #[.int .i64 i, .agg #[.int .i64 (F i), .int .i64 (P i)], .pointer (some ⟨bt, 0, none⟩)] W fun e w' => e = .returned (.int .i64 (tabErr F P i)) ∧ Below W.heap.size W w') := fun i hi W hW =>
    tab_one bt b o n cap F P i hi hcap hl W (cell_later hW hv) (fun j hj => ⟨cell_later hW (hc j hj).1, cell_later hW (hc j hj).2⟩)
  clear hc hv
  go_enter Try.func116, Try.ntmps116
  go_wp2_with (go_at_call 134; refine (most_any _ _ _).mono ?_; rintro e w' ⟨rfl, rfl⟩)
  go_loopw [20] (fun i wr => ∃ k : Nat, k ≤ n ∧ i = .int .i64 k ∧ firstNZ (tabErr F P) 0 n = firstNZ (tabErr F P) k (n - k) ∧ Below w.heap.size w wr) (fun i _ => n - (intOf i).toNat)
  case atStart => exact ⟨0, Nat.zero_le _, rfl, rfl, Below.refl _ _⟩
  case round =>
    obtain ⟨k, hk, rfl, hd, hB⟩ := hrel
    have HD : Hid _ := hd
    clear hd
    by_cases hlt2 : k < n
    · obtain ⟨a0, a1⟩ := HC.out k (by omega)
      replace a0 := cell_later hB a0
      replace a1 := cell_later hB a1
      have hbs := World.block_lt_of_cell? _ _ a0
      have hws : w.heap.size ≤ wr.heap.size := hB.size
      have HH0 : Hid (∀ _ : tabErr F P k = 0, Hid _) := fun h => firstNZ_step0 (tabErr F P) n k (by omega) h
      have HH1 : Hid (∀ _ : ¬ tabErr F P k = 0, Hid _) := fun h => firstNZ_stepN (tabErr F P) n k (by omega) h
      go_wp2_with fail
      refine (HK.out k hlt2 _ ?_).mono ?_
      · (repeat (first | exact Below.refl _ _ | assumption | refine Below.drew ?_ | refine Below.drewN ?_ _ | refine blT ?_ | refine blU ?_))
      rintro e w2 ⟨rfl, hb2⟩
      have hBB : Below w.heap.size w w2 := bwS (by (repeat (first | exact Below.refl _ _ | assumption | refine Below.drew ?_ | refine Below.drewN ?_ _ | refine blT ?_ | refine blU ?_))) (by first | exact Nat.le_refl _ | (simp; done) | (simp; omega)) hb2
      clear hb2
      by_cases hz2 : tabErr F P k = 0
      · have H0 := HH0.out hz2
        have hz3 : (tabErr F P k != 0) = false := by simpa using hz2
        clear hz2
        go_wp2
        go_roundw
        case rel => exact ⟨k + 1, by omega, by go_num, by rw [HD.out, H0.out], hBB⟩
        case measure => simp [intOf]; omega
      · have H0 := HH1.out hz2
        have hz3 : (tabErr F P k != 0) = true := by simpa using hz2
        clear hz2
        go_wp2
        go_ret
        exact ⟨by rw [HD.out, H0.out]; rfl, hBB⟩
    · go_wp2
      go_ret
      have : n - k = 0 := by omega
      exact ⟨by rw [HD.out, this]; rfl, hB⟩

theorem tl_any (bt : Nat) (v : Value) (n : Nat) (F P : Nat → Int) (w : World) (h : PairsAt w v n F P) (hv : w.cell? ⟨bt, 0, none⟩ = some v) :
    Calls Try.prog 116 #[v, .int .i64 20, .func (.func 117) #[] #[.pointer (some ⟨bt, 0, none⟩)]] w fun e w' => e = .returned (.int .i64 (eTs n F P)) ∧ Below w.heap.size w w' := by
  obtain ⟨a, cap, rfl, h1, h2, h3⟩ := h
  unfold eTs
  by_cases h0 : n = 0
  · subst h0
    rw [if_neg (by omega)]
    exact (tl_none _ a cap w).mono fun e w' ⟨he, hw⟩ => ⟨he, hw ▸ Below.refl _ _⟩
  by_cases h12 : 20 < n
  · rw [if_pos h12]
    exact (tl_many _ a n cap w h12 (by omega)).mono fun e w' ⟨he, hw⟩ => ⟨he, hw ▸ Below.refl _ _⟩
  rw [if_neg h12]
  obtain ⟨b, o, rfl, hc⟩ := h3 (by omega)
  exact tl_some bt b o n cap F P w (by omega) h1 h2 hv hc

set_option maxHeartbeats 2000000 in
theorem table_any (v : Value) (n : Nat) (F P : Nat → Int) (w : World) (h : PairsAt w v n F P) :
    Calls Try.prog 83 #[v] w fun e w' => e = .returned (.int .i64 (eTab n F P)) ∧ Below w.heap.size w w' := by
  obtain ⟨a, cap, hv, h1, h2, h3⟩ := id h
  have HP : Hid (∀ W, Below w.heap.size w W → W.cell? ⟨w.heap.size, 0, none⟩ = some (.slice a n cap) → Calls Try.prog 116 #[.slice a n cap, .int .i64 20, .func (.func 117) #[] #[.pointer (some ⟨w.heap.size, 0, none⟩)]] W fun e w' => e = .returned (.int .i64 (eTs n F P)) ∧ Below W.heap.size W w') := fun W hW hc => by
    subst hv
    exact tl_any _ _ n F P W (h.later hW) hc
  subst hv
  clear h h3
  go_enter Try.func83, Try.ntmps83
  go_wp2_with fail
  refine wp_region_held_drew (S := (fun w' => w'.cell? ⟨w.heap.size, 0, none⟩ = some (.slice a n cap) ∧ Below w.heap.size w w')) (by kernel_rfl) ?_ (fun hH => ?_)
  · (try dsimp only); (go_split_ands; refine ⟨?_, ?_⟩ <;> (first | assumption | (go_simp; done) | (go_keep; done) | (refine cell_later hb ?_; first | assumption | (go_keep; done)) | (refine bwS ?_ ?_ hb; (first | assumption | ((repeat (first | exact Below.refl _ _ | assumption | refine Below.drew ?_ | refine Below.drewN ?_ _ | refine blT ?_ | refine blU ?_)); done)); (first | exact Nat.le_refl _ | (simp; done) | (simp; omega))) | ((repeat (first | exact Below.refl _ _ | assumption | refine Below.drew ?_ | refine Below.drewN ?_ _ | refine blT ?_ | refine blU ?_)); done)))
  refine tkY 0 (some 3) ?_ ?_ ?_
  rotate_left
  · intro w hS0; go_simp; (try with_reducible rfl)
  (try simp only [cq])
  refine tkY 1 (some 4) ?_ ?_ ?_
  rotate_left
  · intro w hS0; go_simp; (try with_reducible rfl)
  (try simp only [cq])
  refine tkY 3 (some 6) ?_ ?_ ?_
  rotate_left
  · intro w hS0; go_simp; (try with_reducible rfl)
  (try simp only [cq])
  refine tkY 4 (some 7) ?_ ?_ ?_
  rotate_left
  · intro w hS0; go_simp; (try with_reducible rfl)
  (try simp only [cq])
  refine wpAnyH_ready (rs := [2]) (by kernel_rfl) (by simp) ?_
  refine arc1 (some 5) fun K hK => ?_
  go_simp
  (refine (some_any _ _).mono ?_; rintro e w' ⟨rfl, rfl⟩)
  refine hK.out _ _ ?_ (fun hH => ?_)
  · (go_split_ands; refine ⟨?_, ?_⟩ <;> (first | assumption | (go_simp; done) | (go_keep; done) | (refine cell_later hb ?_; first | assumption | (go_keep; done)) | (refine bwS ?_ ?_ hb; (first | assumption | ((repeat (first | exact Below.refl _ _ | assumption | refine Below.drew ?_ | refine Below.drewN ?_ _ | refine blT ?_ | refine blU ?_)); done)); (first | exact Nat.le_refl _ | (simp; done) | (simp; omega))) | ((repeat (first | exact Below.refl _ _ | assumption | refine Below.drew ?_ | refine Below.drewN ?_ _ | refine blT ?_ | refine blU ?_)); done)))
  clear hK K
  (try simp only [cq])
  refine wpAnyH_ready (rs := [5]) (by kernel_rfl) (by simp) ?_
  refine arc1 (some 8) fun K hK => ?_
  go_simp
  (refine (HP.out _ hH.2 hH.1).mono ?_; rintro e w' ⟨rfl, hb⟩)
  refine hK.out _ _ ?_ (fun hH => ?_)
  · (go_split_ands; refine ⟨?_, ?_⟩ <;> (first | assumption | (go_simp; done) | (go_keep; done) | (refine cell_later hb ?_; first | assumption | (go_keep; done)) | (refine bwS ?_ ?_ hb; (first | assumption | ((repeat (first | exact Below.refl _ _ | assumption | refine Below.drew ?_ | refine Below.drewN ?_ _ | refine blT ?_ | refine blU ?_)); done)); (first | exact Nat.le_refl _ | (simp; done) | (simp; omega))) | ((repeat (first | exact Below.refl _ _ | assumption | refine Below.drew ?_ | refine Below.drewN ?_ _ | refine blT ?_ | refine blU ?_)); done)))
  clear hK K
  (try simp only [cq])
  refine wpAnyH_ready (rs := [6]) (by kernel_rfl) (by simp) ?_
  refine arc1 (some 9) fun K hK => ?_
  go_simp
  refine hK.out _ _ ?_ (fun hH => ?_)
  · (go_split_ands; refine ⟨?_, ?_⟩ <;> (first | assumption | (go_simp; done) | (go_keep; done) | (refine cell_later hb ?_; first | assumption | (go_keep; done)) | (refine bwS ?_ ?_ hb; (first | assumption | ((repeat (first | exact Below.refl _ _ | assumption | refine Below.drew ?_ | refine Below.drewN ?_ _ | refine blT ?_ | refine blU ?_)); done)); (first | exact Nat.le_refl _ | (simp; done) | (simp; omega))) | ((repeat (first | exact Below.refl _ _ | assumption | refine Below.drew ?_ | refine Below.drewN ?_ _ | refine blT ?_ | refine blU ?_)); done)))
  clear hK K
  (try simp only [cq])
  refine wpAnyH_ready (rs := [7]) (by kernel_rfl) (by simp) ?_
  refine arc1 (some 10) fun K hK => ?_
  go_simp
  (refine (first_two _ _ (eSm n) (eTs n F P) _ (by first | (simp; done) | (go_simp; done) | (go_keep; done)) (by first | (simp; done) | (go_simp; done) | (go_keep; done))).mono ?_; rintro e w' ⟨rfl, rfl⟩)
  refine hK.out _ _ ?_ (fun hH => ?_)
  · (go_split_ands; refine ⟨?_, ?_⟩ <;> (first | assumption | (go_simp; done) | (go_keep; done) | (refine cell_later hb ?_; first | assumption | (go_keep; done)) | (refine bwS ?_ ?_ hb; (first | assumption | ((repeat (first | exact Below.refl _ _ | assumption | refine Below.drew ?_ | refine Below.drewN ?_ _ | refine blT ?_ | refine blU ?_)); done)); (first | exact Nat.le_refl _ | (simp; done) | (simp; omega))) | ((repeat (first | exact Below.refl _ _ | assumption | refine Below.drew ?_ | refine Below.drewN ?_ _ | refine blT ?_ | refine blU ?_)); done)))
  clear hK K
  (try simp only [cq])
  refine tkY 8 (some 2) ?_ ?_ ?_
  rotate_left
  · intro w _; go_simp; (try with_reducible rfl)
  (try simp only [cq])
  refine wpAnyH_done (by kernel_rfl) ?_ _
  (try dsimp only [Act.put])
  (try simp only [cq])
  have hBB : Below w.heap.size w _ := hH.2
  clear hH
  go_wp2
  go_ret
  exact ⟨rfl, hBB⟩
end Go.Proofs.Ytkkljbbgaogifaa

/-
  The contracts of frost.checkDays, CheckIce, Check, checkAll.
-/
import Derived.Test.YtdbiijldincoiaaGreatTail
import Derived.Test.YtdbiijldincoiaaGreatCvs
set_option linter.unusedVariables false
set_option linter.unusedSimpArgs false
namespace Go.Proofs.YtdbiijldincoiaaGreat
open Go.RowKit

structure Dy where
  c0 : Int
  c1 : Int
  f0 : Int
  f1 : Int
  wa : Int
  cl : Bool

def DaysAt (w : World) (v : Value) (n : Nat) (d : Nat → Dy) : Prop :=
  ∃ a cap, v = .slice a n cap ∧ n ≤ cap ∧ cap ≤ 9223372036854775807 ∧ (0 < n → ∃ b o, a = some ⟨b, o, none⟩ ∧
    ∀ i, i < n → w.cell? ⟨b, o + i * 6, none⟩ = some (.int .i64 (d i).c0) ∧ w.cell? ⟨b, o + i * 6 + 1, none⟩ = some (.int .i64 (d i).c1) ∧ w.cell? ⟨b, o + i * 6 + 2, none⟩ = some (.int .i64 (d i).f0) ∧
      w.cell? ⟨b, o + i * 6 + 3, none⟩ = some (.int .i64 (d i).f1) ∧ w.cell? ⟨b, o + i * 6 + 4, none⟩ = some (.int .i64 (d i).wa) ∧ w.cell? ⟨b, o + i * 6 + 5, none⟩ = some (.bool (d i).cl))

theorem DaysAt.later {w w' : World} {v : Value} {n : Nat} {d : Nat → Dy} (h : DaysAt w v n d) (hb : Below w.heap.size w w') : DaysAt w' v n d := by
  obtain ⟨a, cap, hv, h1, h2, h3⟩ := h
  refine ⟨a, cap, hv, h1, h2, fun h0 => ?_⟩
  obtain ⟨b, o, ha, hc⟩ := h3 h0
  exact ⟨b, o, ha, fun i hi => ⟨cell_later hb (hc i hi).1, cell_later hb (hc i hi).2.1, cell_later hb (hc i hi).2.2.1, cell_later hb (hc i hi).2.2.2.1, cell_later hb (hc i hi).2.2.2.2.1, cell_later hb (hc i hi).2.2.2.2.2⟩⟩

def dayErr (d : Dy) : Int := orE (eS d.c0 d.c1 (-1000) 1000) (orE (eS d.f0 d.f1 0 1000) (eN d.wa 0 200))
def eDs (n : Nat) (d : Nat → Dy) : Int := if 400 < n then 8 else firstNZ (fun i => dayErr (d i)) 0 n

theorem first_day (b cap : Nat) (d : Dy) (w : World) (h0 : w.cell? ⟨b, 0, none⟩ = some (.int .i64 (eS d.c0 d.c1 (-1000) 1000))) (h1 : w.cell? ⟨b, 1, none⟩ = some (.int .i64 (eS d.f0 d.f1 0 1000))) (h2 : w.cell? ⟨b, 2, none⟩ = some (.int .i64 (eN d.wa 0 200))) :
    Calls Tryz.prog 42 #[.slice (some ⟨b, 0, none⟩) 3 cap] w fun e w' => e = .returned (.int .i64 (dayErr d)) ∧ w = w' := first_three b cap _ _ _ w h0 h1 h2

theorem day_one_any (i : Int) (d : Dy) (w : World) :
    Calls Tryz.prog 66 #[.int .i64 i, .agg #[.int .i64 d.c0, .int .i64 d.c1, .int .i64 d.f0, .int .i64 d.f1, .int .i64 d.wa, .bool d.cl]] w fun e w' => e = .returned (.int .i64 (dayErr d)) ∧ Below w.heap.size w w' := by
  go_enter Tryz.func66, Tryz.ntmps66
  go_wp2_with fail
  refine wp_region_held_drew (S := (fun w' => w'.cell? ⟨w.heap.size, 0, none⟩ = some (.int .i64 d.c0) ∧ w'.cell? ⟨w.heap.size, 1, none⟩ = some (.int .i64 d.c1) ∧ w'.cell? ⟨w.heap.size, 2, none⟩ = some (.int .i64 d.f0) ∧ w'.cell? ⟨w.heap.size, 3, none⟩ = some (.int .i64 d.f1) ∧ w'.cell? ⟨w.heap.size, 4, none⟩ = some (.int .i64 d.wa) ∧ Below w.heap.size w w')) (by kernel_rfl) ?_ (fun hH => ?_)
  · (try dsimp only); (go_split_ands; refine ⟨?_, ?_, ?_, ?_, ?_, ?_⟩ <;> (first | assumption | (go_simp; done) | (go_keep; done) | (refine cell_later hb ?_; first | assumption | (go_keep; done)) | (refine bwS ?_ ?_ hb; (first | assumption | ((repeat (first | exact Below.refl _ _ | assumption | refine Below.drew ?_ | refine Below.drewN ?_ _ | refine blT ?_ | refine blU ?_)); done)); (first | exact Nat.le_refl _ | (simp; done) | (simp; omega))) | ((repeat (first | exact Below.refl _ _ | assumption | refine Below.drew ?_ | refine Below.drewN ?_ _ | refine blT ?_ | refine blU ?_)); done)))
  refine tkY 0 (some 5) ?_ ?_ ?_
  rotate_left
  · intro w hS0; go_simp; (try with_reducible rfl)
  (try simp only [cq])
  refine tkY 1 (some 6) ?_ ?_ ?_
  rotate_left
  · intro w hS0; go_simp; (try with_reducible rfl)
  (try simp only [cq])
  refine tkY 3 (some 8) ?_ ?_ ?_
  rotate_left
  · intro w hS0; go_simp; (try with_reducible rfl)
  (try simp only [cq])
  refine tkY 4 (some 9) ?_ ?_ ?_
  rotate_left
  · intro w hS0; go_simp; (try with_reducible rfl)
  (try simp only [cq])
  refine tkY 6 (some 11) ?_ ?_ ?_
  rotate_left
  · intro w hS0; go_simp; (try with_reducible rfl)
  (try simp only [cq])
  refine tkY 7 (some 12) ?_ ?_ ?_
  rotate_left
  · intro w hS0; go_simp; (try with_reducible rfl)
  (try simp only [cq])
  refine wpAnyH_ready (rs := [2]) (by kernel_rfl) (by simp) ?_
  refine arc1 (some 7) fun K hK => ?_
  go_simp
  (refine (span_any _ _ _ _ _).mono ?_; rintro e w' ⟨rfl, hb⟩)
  refine hK.out _ _ ?_ (fun hH => ?_)
  · (go_split_ands; refine ⟨?_, ?_, ?_, ?_, ?_, ?_⟩ <;> (first | assumption | (go_simp; done) | (go_keep; done) | (refine cell_later hb ?_; first | assumption | (go_keep; done)) | (refine bwS ?_ ?_ hb; (first | assumption | ((repeat (first | exact Below.refl _ _ | assumption | refine Below.drew ?_ | refine Below.drewN ?_ _ | refine blT ?_ | refine blU ?_)); done)); (first | exact Nat.le_refl _ | (simp; done) | (simp; omega))) | ((repeat (first | exact Below.refl _ _ | assumption | refine Below.drew ?_ | refine Below.drewN ?_ _ | refine blT ?_ | refine blU ?_)); done)))
  clear hK K
  (try simp only [cq])
  refine wpAnyH_ready (rs := [5]) (by kernel_rfl) (by simp) ?_
  refine arc1 (some 10) fun K hK => ?_
  go_simp
  (refine (span_any _ _ _ _ _).mono ?_; rintro e w' ⟨rfl, hb⟩)
  refine hK.out _ _ ?_ (fun hH => ?_)
  · (go_split_ands; refine ⟨?_, ?_, ?_, ?_, ?_, ?_⟩ <;> (first | assumption | (go_simp; done) | (go_keep; done) | (refine cell_later hb ?_; first | assumption | (go_keep; done)) | (refine bwS ?_ ?_ hb; (first | assumption | ((repeat (first | exact Below.refl _ _ | assumption | refine Below.drew ?_ | refine Below.drewN ?_ _ | refine blT ?_ | refine blU ?_)); done)); (first | exact Nat.le_refl _ | (simp; done) | (simp; omega))) | ((repeat (first | exact Below.refl _ _ | assumption | refine Below.drew ?_ | refine Below.drewN ?_ _ | refine blT ?_ | refine blU ?_)); done)))
  clear hK K
  (try simp only [cq])
  refine wpAnyH_ready (rs := [8]) (by kernel_rfl) (by simp) ?_
  refine arc1 (some 13) fun K hK => ?_
  go_simp
  (refine (number_any _ _ _ _).mono ?_; rintro e w' ⟨rfl, rfl⟩)
  refine hK.out _ _ ?_ (fun hH => ?_)
  · (go_split_ands; refine ⟨?_, ?_, ?_, ?_, ?_, ?_⟩ <;> (first | assumption | (go_simp; done) | (go_keep; done) | (refine cell_later hb ?_; first | assumption | (go_keep; done)) | (refine bwS ?_ ?_ hb; (first | assumption | ((repeat (first | exact Below.refl _ _ | assumption | refine Below.drew ?_ | refine Below.drewN ?_ _ | refine blT ?_ | refine blU ?_)); done)); (first | exact Nat.le_refl _ | (simp; done) | (simp; omega))) | ((repeat (first | exact Below.refl _ _ | assumption | refine Below.drew ?_ | refine Below.drewN ?_ _ | refine blT ?_ | refine blU ?_)); done)))
  clear hK K
  (try simp only [cq])
  refine wpAnyH_ready (rs := [9]) (by kernel_rfl) (by simp) ?_
  refine arc1 (some 14) fun K hK => ?_
  go_simp
  refine hK.out _ _ ?_ (fun hH => ?_)
  · (go_split_ands; refine ⟨?_, ?_, ?_, ?_, ?_, ?_⟩ <;> (first | assumption | (go_simp; done) | (go_keep; done) | (refine cell_later hb ?_; first | assumption | (go_keep; done)) | (refine bwS ?_ ?_ hb; (first | assumption | ((repeat (first | exact Below.refl _ _ | assumption | refine Below.drew ?_ | refine Below.drewN ?_ _ | refine blT ?_ | refine blU ?_)); done)); (first | exact Nat.le_refl _ | (simp; done) | (simp; omega))) | ((repeat (first | exact Below.refl _ _ | assumption | refine Below.drew ?_ | refine Below.drewN ?_ _ | refine blT ?_ | refine blU ?_)); done)))
  clear hK K
  (try simp only [cq])
  refine wpAnyH_ready (rs := [10]) (by kernel_rfl) (by simp) ?_
  refine arc1 (some 15) fun K hK => ?_
  go_simp
  (refine (first_day _ _ d _ ?_ ?_ ?_).mono ?_; simp; simp; simp; rintro e w' ⟨rfl, rfl⟩)
  refine hK.out _ _ ?_ (fun hH => ?_)
  · (go_split_ands; refine ⟨?_, ?_, ?_, ?_, ?_, ?_⟩ <;> (first | assumption | (go_simp; done) | (go_keep; done) | (refine cell_later hb ?_; first | assumption | (go_keep; done)) | (refine bwS ?_ ?_ hb; (first | assumption | ((repeat (first | exact Below.refl _ _ | assumption | refine Below.drew ?_ | refine Below.drewN ?_ _ | refine blT ?_ | refine blU ?_)); done)); (first | exact Nat.le_refl _ | (simp; done) | (simp; omega))) | ((repeat (first | exact Below.refl _ _ | assumption | refine Below.drew ?_ | refine Below.drewN ?_ _ | refine blT ?_ | refine blU ?_)); done)))
  clear hK K
  (try simp only [cq])
  refine tkY 11 (some 4) ?_ ?_ ?_
  rotate_left
  · intro w _; go_simp; (try with_reducible rfl)
  (try simp only [cq])
  refine wpAnyH_done (by kernel_rfl) ?_ _
  (try dsimp only [Act.put])
  (try simp only [cq])
  have hBB : Below w.heap.size w _ := hH.2.2.2.2.2
  clear hH
  go_wp2
  go_ret
  exact ⟨rfl, hBB⟩

theorem days_many (a : Option Addr) (n cap : Nat) (w : World) (hn : 400 < n) (hl : n ≤ 9223372036854775807) :
    Calls Tryz.prog 65 #[.slice a n cap, .int .i64 400, .func (.func 66) #[] #[]] w fun e w' => e = .returned (.int .i64 8) ∧ w = w' := by
  have hE : eM n 400 = 8 := by unfold eM; rw [if_pos (by omega)]
  go_enter Tryz.func65, Tryz.ntmps65
  go_wp2_with (go_at_call 89; refine (most_any _ _ _).mono ?_; rintro e w' ⟨rfl, rfl⟩)
  go_ret
  exact ⟨rfl, rfl⟩

theorem days_none (a : Option Addr) (cap : Nat) (w : World) :
    Calls Tryz.prog 65 #[.slice a 0 cap, .int .i64 400, .func (.func 66) #[] #[]] w fun e w' => e = .returned (.int .i64 0) ∧ w = w' := by
  have hE : eM 0 400 = 0 := rfl
  go_enter Tryz.func65, Tryz.ntmps65
  go_wp2_with (go_at_call 89; refine (most_any _ _ _).mono ?_; rintro e w' ⟨rfl, rfl⟩)
  refine wp_loop_rounds 1 ?_
  rw [rounds_succ]
  go_wp2
  go_ret
  exact ⟨rfl, rfl⟩

set_option maxHeartbeats 1000000 in
theorem days_some (b o n cap : Nat) (d : Nat → Dy) (w : World) (h12 : n ≤ 400)
    (hc : ∀ i, i < n → w.cell? ⟨b, o + i * 6, none⟩ = some (.int .i64 (d i).c0) ∧ w.cell? ⟨b, o + i * 6 + 1, none⟩ = some (.int .i64 (d i).c1) ∧ w.cell? ⟨b, o + i * 6 + 2, none⟩ = some (.int .i64 (d i).f0) ∧
      w.cell? ⟨b, o + i * 6 + 3, none⟩ = some (.int .i64 (d i).f1) ∧ w.cell? ⟨b, o + i * 6 + 4, none⟩ = some (.int .i64 (d i).wa) ∧ w.cell? ⟨b, o + i * 6 + 5, none⟩ = some (.bool (d i).cl)) :
    Calls Tryz.prog 65 #[.slice (some ⟨b, o, none⟩) n cap, .int .i64 400, .func (.func 66) #[] #[]] w fun e w' => e = .returned (.int .i64 (firstNZ (fun i => dayErr (d i)) 0 n)) ∧ Below w.heap.size w w' := by
  have hE : eM n 400 = 0 := by unfold eM; rw [if_neg (by omega)]
  have HC : Hid _ := hc
  clear hc
  go_enter Tryz.func65, Tryz.ntmps65
  go_wp2_with (go_at_call 89; refine (most_any _ _ _).mono ?_; rintro e w' ⟨rfl, rfl⟩)
  go_loopw [20] (fun i wr => ∃ k : Nat, k ≤ n ∧ i = .int .i64 k ∧ firstNZ (fun i => dayErr (d i)) 0 n = firstNZ (fun i => dayErr (d i)) k (n - k) ∧ Below w.heap.size w wr) (fun i _ => n - (intOf i).toNat)
  case atStart => exact ⟨0, Nat.zero_le _, rfl, rfl, Below.refl _ _⟩
  case round =>
    obtain ⟨k, hk, rfl, hd, hB⟩ := hrel
    have HD : Hid _ := hd
    clear hd
    by_cases hlt2 : k < n
    · obtain ⟨a0, a1, a2, a3, a4, a5⟩ := HC.out k (by omega)
      replace a0 := cell_later hB a0
      replace a1 := cell_later hB a1
      replace a2 := cell_later hB a2
      replace a3 := cell_later hB a3
      replace a4 := cell_later hB a4
      replace a5 := cell_later hB a5
      have hbs := World.block_lt_of_cell? _ _ a0
      have hws : w.heap.size ≤ wr.heap.size := hB.size
      have H0 : ∀ h : dayErr (d k) = 0, Hid _ := fun h => firstNZ_step0 (fun i => dayErr (d i)) n k (by omega) h
      have H1 : ∀ h : ¬ dayErr (d k) = 0, Hid _ := fun h => firstNZ_stepN (fun i => dayErr (d i)) n k (by omega) h
      have HH0 : Hid (∀ _ : dayErr (d k) = 0, Hid _) := H0
      have HH1 : Hid (∀ _ : ¬ dayErr (d k) = 0, Hid _) := H1
      clear H0 H1
      go_wp2_with fail
      refine (day_one_any _ (d k) _).mono ?_
      rintro e w2 ⟨rfl, hb2⟩
      have hBB : Below w.heap.size w w2 := bwS (by (repeat (first | exact Below.refl _ _ | assumption | refine Below.drew ?_ | refine Below.drewN ?_ _ | refine blT ?_ | refine blU ?_))) (by first | (simp; done) | (simp; omega)) hb2
      clear hb2
      by_cases hz2 : dayErr (d k) = 0
      · have H0 := HH0.out hz2
        have hz3 : (dayErr (d k) != 0) = false := by simpa using hz2
        clear hz2
        go_wp2
        go_roundw
        case rel => exact ⟨k + 1, by omega, by go_num, by rw [HD.out, H0.out], hBB⟩
        case measure => simp [intOf]; omega
      · have H0 := HH1.out hz2
        have hz3 : (dayErr (d k) != 0) = true := by simpa using hz2
        clear hz2
        go_wp2
        go_ret
        exact ⟨by rw [HD.out, H0.out]; rfl, hBB⟩
    · go_wp2
      go_ret
      have : n - k = 0 := by omega
      exact ⟨by rw [HD.out, this]; rfl, hB⟩

theorem dayl_any (v : Value) (n : Nat) (d : Nat → Dy) (w : World) (h : DaysAt w v n d) :
    Calls Tryz.prog 65 #[v, .int .i64 400, .func (.func 66) #[] #[]] w fun e w' => e = .returned (.int .i64 (eDs n d)) ∧ Below w.heap.size w w' := by
  obtain ⟨a, cap, rfl, h1, h2, h3⟩ := h
  unfold eDs
  by_cases h0 : n = 0
  · subst h0
    rw [if_neg (by omega)]
    exact (days_none a cap w).mono fun e w' ⟨he, hw⟩ => ⟨he, hw ▸ Below.refl _ _⟩
  by_cases h12 : 400 < n
  · rw [if_pos h12]
    exact (days_many a n cap w h12 (by omega)).mono fun e w' ⟨he, hw⟩ => ⟨he, hw ▸ Below.refl _ _⟩
  rw [if_neg h12]
  obtain ⟨b, o, rfl, hc⟩ := h3 (by omega)
  exact days_some b o n cap d w (by omega) hc

theorem days_any (v : Value) (n : Nat) (d : Nat → Dy) (w : World) (h : DaysAt w v n d) :
    Calls Tryz.prog 40 #[v] w fun e w' => e = .returned (.int .i64 (eDs n d)) ∧ Below w.heap.size w w' := by
  have HD := Lib.hid (dayl_any v n d w h)
  go_enter Tryz.func40, Tryz.ntmps40
  go_wp2_with fail
  refine HD.out.mono ?_
  rintro e w' ⟨rfl, hb⟩
  go_wp2
  go_ret
  exact ⟨rfl, hb⟩
end Go.Proofs.YtdbiijldincoiaaGreat

/-
  The reference's checks of days and of covers: the program's values.
-/
import Derived.Test.YtdbiijldincoiaaGreatRef1
import Derived.Test.YtdbiijldincoiaaGreatAll
set_option linter.unusedVariables false
set_option linter.unusedSimpArgs false
namespace Go.Proofs.YtdbiijldincoiaaGreat
open Go.RowKit

theorem orE_left {a b : Int} (h : a ≠ 0) : orE a b = a := if_neg h
theorem orE_right {a b : Int} (h : a = 0) : orE a b = b := if_pos h
theorem eN_out {n lo hi : Int} (h : outB n lo hi = true) : eN n lo hi = 2 := by rw [outB_eN, h]; rfl
theorem eN_in {n lo hi : Int} (h : outB n lo hi = false) : eN n lo hi = 0 := by rw [outB_eN, h]; rfl

set_option maxRecDepth 100000 in
set_option maxHeartbeats 4000000 in
theorem rdays_some (b o n cap : Nat) (d : Nat → Dy) (w : World) (h12 : n ≤ 400)
    (hc : ∀ i, i < n → w.cell? ⟨b, o + i * 6, none⟩ = some (.int .i64 (d i).c0) ∧ w.cell? ⟨b, o + i * 6 + 1, none⟩ = some (.int .i64 (d i).c1) ∧ w.cell? ⟨b, o + i * 6 + 2, none⟩ = some (.int .i64 (d i).f0) ∧
      w.cell? ⟨b, o + i * 6 + 3, none⟩ = some (.int .i64 (d i).f1) ∧ w.cell? ⟨b, o + i * 6 + 4, none⟩ = some (.int .i64 (d i).wa) ∧ w.cell? ⟨b, o + i * 6 + 5, none⟩ = some (.bool (d i).cl)) :
    Calls Tryz.prog 41 #[.slice (some ⟨b, o, none⟩) n cap] w fun e w' => e = .returned (.int .i64 (firstNZ (fun i => dayErr (d i)) 0 n)) ∧ Below w.heap.size w w' := by
  have HC := Lib.hid hc
  clear hc
  have hn4 : decide ((400 : Int) < (n : Int)) = false := by simp; omega
  go_enter Tryz.func41, Tryz.ntmps41
  go_wp2_with fail
  go_loopw [3] (fun i wr => ∃ k : Nat, k ≤ n ∧ i = .int .i64 k ∧ firstNZ (fun i => dayErr (d i)) 0 n = firstNZ (fun i => dayErr (d i)) k (n - k) ∧ Below w.heap.size w wr) (fun i _ => n - (intOf i).toNat)
  case atStart => exact ⟨0, Nat.zero_le _, rfl, rfl, Below.refl _ _⟩
  case round =>
    obtain ⟨k, hk, rfl, hd, hB⟩ := hrel
    have HD : Hid _ := hd
    clear hd
    by_cases hlt2 : k < n
    · obtain ⟨a0, a1, a2, a3, a4, a5⟩ := HC.out k (by omega)
      replace a0 := cell_later hB a0
      replace a1 := cell_later hB a1
      replace a2 := cell_later hB a2
      replace a3 := cell_later hB a3
      replace a4 := cell_later hB a4
      clear a5
      have hbs := World.block_lt_of_cell? _ _ a0
      have HN : ∀ h : ¬ dayErr (d k) = 0, firstNZ (fun i => dayErr (d i)) 0 n = dayErr (d k) := fun h => HD.out.trans (firstNZ_stepN (fun i => dayErr (d i)) n k (by omega) h)
      have HZ : ∀ h : dayErr (d k) = 0, firstNZ (fun i => dayErr (d i)) 0 n = firstNZ (fun i => dayErr (d i)) (k + 1) (n - (k + 1)) := fun h => HD.out.trans (firstNZ_step0 (fun i => dayErr (d i)) n k (by omega) h)
      have HE : dayErr (d k) = orE (eS (d k).c0 (d k).c1 (-1000) 1000) (orE (eS (d k).f0 (d k).f1 0 1000) (eN (d k).wa 0 200)) := rfl
      have HN2 := Lib.hid HN
      have HZ2 := Lib.hid HZ
      have HE2 := Lib.hid HE
      clear HN HZ HE hn4
      go_wp2_with fail
      refine (rspan_any _ _ _ _ _).mono ?_
      rintro e w2 ⟨rfl, hb⟩
      replace a2 := cell_later hb a2
      replace a3 := cell_later hb a3
      replace a4 := cell_later hb a4
      replace hB := bwS hB (Nat.le_refl _) hb
      clear a0 a1 hb hbs
      have hbs := World.block_lt_of_cell? _ _ a2
      by_cases z1 : eS (d k).c0 (d k).c1 (-1000) 1000 = 0
      case neg =>
        have e1 := HE2.out.trans (orE_left z1)
        have e2 := Lib.hid ((HN2.out (by rw [e1]; exact z1)).trans e1)
        have z2 : (eS (d k).c0 (d k).c1 (-1000) 1000 != 0) = true := by simpa using z1
        clear e1 z1
        go_wp2
        go_ret
        exact ⟨ret_int e2.out.symm, hB⟩
      have z2 : (eS (d k).c0 (d k).c1 (-1000) 1000 != 0) = false := by simpa using z1
      have HE3 := Lib.hid (HE2.out.trans (orE_right z1))
      clear z1 HE2
      go_wp2_with fail
      refine (rspan_any _ _ _ _ _).mono ?_
      rintro e w3 ⟨rfl, hb⟩
      replace a4 := cell_later hb a4
      replace hB := bwS hB (Nat.le_refl _) hb
      clear a2 a3 hb hbs z2
      have hbs := World.block_lt_of_cell? _ _ a4
      by_cases z1 : eS (d k).f0 (d k).f1 0 1000 = 0
      case neg =>
        have e1 := HE3.out.trans (orE_left z1)
        have e2 := Lib.hid ((HN2.out (by rw [e1]; exact z1)).trans e1)
        have z2 : (eS (d k).f0 (d k).f1 0 1000 != 0) = true := by simpa using z1
        clear e1 z1
        go_wp2
        go_ret
        exact ⟨ret_int e2.out.symm, hB⟩
      have z2 : (eS (d k).f0 (d k).f1 0 1000 != 0) = false := by simpa using z1
      have HE4 := Lib.hid (HE3.out.trans (orE_right z1))
      clear z1 HE3
      go_wp2_with fail
      refine (rout_any _ _ _ _).mono ?_
      rintro e w4 ⟨rfl, rfl⟩
      clear z2
      cases hob : outB (d k).wa 0 200 with
      | true =>
        have e1 := HE4.out.trans (eN_out hob)
        have e2 := Lib.hid ((HN2.out (by rw [e1]; decide)).trans e1)
        clear hob e1
        go_wp2
        go_ret
        exact ⟨ret_int e2.out.symm, hB⟩
      | false =>
        have e1 := Lib.hid (HZ2.out (HE4.out.trans (eN_in hob)))
        clear hob
        go_wp2
        go_roundw
        case rel => exact ⟨k + 1, by omega, by go_num, e1.out, hB⟩
        case measure => simp [intOf]; omega
    · go_wp2
      go_ret
      have : n - k = 0 := by omega
      exact ⟨by rw [HD.out, this]; rfl, hB⟩

theorem rdays_many (a : Option Addr) (n cap : Nat) (w : World) (hn : 400 < n) :
    Calls Tryz.prog 41 #[.slice a n cap] w fun e w' => e = .returned (.int .i64 8) ∧ w = w' := by
  have hn4 : decide ((400 : Int) < (n : Int)) = true := by simp; omega
  go_enter Tryz.func41, Tryz.ntmps41
  go_wp2_with fail
  go_ret
  exact ⟨rfl, rfl⟩
theorem rdays_none (a : Option Addr) (cap : Nat) (w : World) :
    Calls Tryz.prog 41 #[.slice a 0 cap] w fun e w' => e = .returned (.int .i64 0) ∧ w = w' := by
  go_enter Tryz.func41, Tryz.ntmps41
  go_wp2_with fail
  refine wp_loop_rounds 1 ?_
  rw [rounds_succ]
  go_wp2
  go_ret
  exact ⟨rfl, rfl⟩
theorem rdays_any (v : Value) (n : Nat) (d : Nat → Dy) (w : World) (h : DaysAt w v n d) :
    Calls Tryz.prog 41 #[v] w fun e w' => e = .returned (.int .i64 (eDs n d)) ∧ Below w.heap.size w w' := by
  obtain ⟨a, cap, rfl, h1, h2, h3⟩ := h
  unfold eDs
  by_cases h0 : n = 0
  · subst h0
    rw [if_neg (by omega)]
    exact (rdays_none a cap w).mono fun e w' ⟨he, hw⟩ => ⟨he, hw ▸ Below.refl _ _⟩
  by_cases h12 : 400 < n
  · rw [if_pos h12]
    exact (rdays_many a n cap w h12).mono fun e w' ⟨he, hw⟩ => ⟨he, hw ▸ Below.refl _ _⟩
  rw [if_neg h12]
  obtain ⟨b, o, rfl, hc⟩ := h3 (by omega)
  exact rdays_some b o n cap d w (by omega) hc
end Go.Proofs.YtdbiijldincoiaaGreat

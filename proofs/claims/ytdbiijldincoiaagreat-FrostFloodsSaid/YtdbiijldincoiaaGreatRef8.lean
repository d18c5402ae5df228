/-
  The reference's checks of covers, and of a law: the program's values.
-/
import Derived.Test.YtdbiijldincoiaaGreatRef7
import Derived.Test.YtdbiijldincoiaaGreatTail
set_option linter.unusedVariables false
set_option linter.unusedSimpArgs false
namespace Go.Proofs.YtdbiijldincoiaaGreat
open Go.RowKit

theorem eS_zero_in {a b lo hi : Int} (h : eS a b lo hi = 0) : lo ≤ a ∧ b ≤ hi ∧ a ≤ b := by
  cases h1 : outB a lo hi with
  | true => rw [eS_out1 h1] at h; omega
  | false =>
    cases h2 : outB b lo hi with
    | true => rw [eS_out2 h1 h2] at h; omega
    | false =>
      by_cases h3 : b < a
      · rw [eS_ord h1 h2 h3] at h; omega
      · unfold outB at h1 h2
        simp at h1 h2
        omega

set_option maxRecDepth 100000 in
set_option maxHeartbeats 4000000 in
theorem rcovers_some (b o n cap : Nat) (D P0 P1 : Nat → Int) (w : World) (h0 : 0 < n) (h12 : n ≤ 12)
    (hc : ∀ i, i < n → w.cell? ⟨b, o + i * 3, none⟩ = some (.int .i64 (D i)) ∧ w.cell? ⟨b, o + i * 3 + 1, none⟩ = some (.int .i64 (P0 i)) ∧ w.cell? ⟨b, o + i * 3 + 2, none⟩ = some (.int .i64 (P1 i))) :
    Calls Tryz.prog 82 #[.slice (some ⟨b, o, none⟩) n cap] w fun e w' => e = .returned (.int .i64 (firstNZ (covErr D P0 P1) 0 n)) ∧ Below w.heap.size w w' := by
  have HC := Lib.hid hc
  clear hc
  have hn4 : decide ((12 : Int) < (n : Int)) = false := by simp; omega
  have hn0 : ((n : Int) == 0) = false := by simp; omega
  go_enter Tryz.func82, Tryz.ntmps82
  go_wp2_with fail
  go_loopw [3] (fun i wr => ∃ k : Nat, k ≤ n ∧ i = .int .i64 k ∧ firstNZ (covErr D P0 P1) 0 n = firstNZ (covErr D P0 P1) k (n - k) ∧ Below w.heap.size w wr) (fun i _ => n - (intOf i).toNat)
  case atStart => exact ⟨0, Nat.zero_le _, rfl, rfl, Below.refl _ _⟩
  case round =>
    obtain ⟨k, hk, rfl, hd, hB⟩ := hrel
    have HD : Hid _ := hd
    clear hd hn4 hn0
    by_cases hlt2 : k < n
    · obtain ⟨x0, x1, x2⟩ := HC.out k (by omega)
      replace x0 := cell_later hB x0
      replace x1 := cell_later hB x1
      replace x2 := cell_later hB x2
      have hbs := World.block_lt_of_cell? _ _ x0
      have HN2 := Lib.hid (fun (h : ¬ covErr D P0 P1 k = 0) => HD.out.trans (firstNZ_stepN (covErr D P0 P1) n k (by omega) h))
      have HZ2 := Lib.hid (fun (h : covErr D P0 P1 k = 0) => HD.out.trans (firstNZ_step0 (covErr D P0 P1) n k (by omega) h))
      clear HD
      rcases Nat.eq_zero_or_pos k with hk0 | hk0
      · subst hk0
        have HE2 := Lib.hid (show covErr D P0 P1 0 = orE (eN (D 0) 0 5000) (orE (eO (D 0 == 0)) (orE (eS (P0 0) (P1 0) 0 1000000) (eO (decide (P0 0 ≤ 1000000) && decide (P1 0 ≤ 1000000))))) from rfl)
        simp only [Nat.zero_mul, Nat.add_zero] at x0 x1 x2
        generalize D 0 = p at x0 HE2
        generalize P0 0 = q at x1 HE2
        generalize P1 0 = r at x2 HE2
        generalize covErr D P0 P1 0 = E at HE2 HN2 HZ2
        go_wp2_with fail
        refine (rout_any _ _ _ _).mono ?_
        rintro e w4 ⟨rfl, rfl⟩
        cases hob : outB p 0 5000 with
        | true =>
          have e1 := HE2.out.trans ((orE_left (by rw [eN_out hob]; decide)).trans (eN_out hob))
          have e2 := Lib.hid ((HN2.out (by rw [e1]; decide)).trans e1)
          clear hob e1
          go_wp2
          go_ret
          exact ⟨ret_int e2.out.symm, hB⟩
        | false =>
        have HE3 := Lib.hid (HE2.out.trans (orE_right (eN_in hob)))
        clear hob HE2
        go_upto_region 10 with fail
        by_cases hp : p = 0
        case neg =>
          have hp2 : (p != 0) = true := by simpa using hp
          have hp3 : (p == 0) = false := by simpa using hp
          have e1 : E = 11 := HE3.out.trans (by rw [hp3]; rfl)
          have e2 := Lib.hid ((HN2.out (by rw [e1]; decide)).trans e1)
          clear e1 hp hp3
          refine wp_region_held_drew (S := (fun w' => Below wr.heap.size wr w')) (by kernel_rfl) ?_ (fun hH => ?_)
          · (try dsimp only); (exact (Below.refl _ _).drew)
          refine tkY 0 (some 23) ?_ ?_ ?_
          rotate_left
          · intro w _; go_simp; (try with_reducible rfl)
          (try simp only [cq])
          refine tkY 1 (some 24) ?_ ?_ ?_
          rotate_left
          · intro w _; go_simp; (try with_reducible rfl)
          (try simp only [cq])
          refine tkY 2 (some 25) ?_ ?_ ?_
          rotate_left
          · intro w _; go_simp; (try with_reducible rfl)
          (try simp only [cq])
          refine tkY 3 (some 26) ?_ ?_ ?_
          rotate_left
          · intro w _; go_simp; (try with_reducible rfl)
          (try simp only [cq])
          refine tkY 4 (some 27) ?_ ?_ ?_
          rotate_left
          · intro w _; go_simp; (try with_reducible rfl)
          (try simp only [cq])
          refine tkY 5 (some 28) ?_ ?_ ?_
          rotate_left
          · intro w hS0; (try dsimp only at hS0); have qx0 := cell_later hS0 x0;go_simp; (try with_reducible rfl)
          (try simp only [cq])
          refine tkY 6 (some 29) ?_ ?_ ?_
          rotate_left
          · intro w hS0; (try dsimp only at hS0); have qx0 := cell_later hS0 x0;go_simp; (try with_reducible rfl)
          (try simp only [cq])
          refine tkY 7 (some 30) ?_ ?_ ?_
          rotate_left
          · intro w hS0; (try dsimp only at hS0); have qx0 := cell_later hS0 x0;go_simp; (try with_reducible rfl)
          (try simp only [cq])
          refine tkY 8 (some 31) ?_ ?_ ?_
          rotate_left
          · intro w _; go_simp; (try with_reducible rfl)
          (try simp only [cq])
          refine tkY 9 (some 32) ?_ ?_ ?_
          rotate_left
          · intro w _; go_simp; (try with_reducible rfl)
          (try simp only [cq])
          refine tkY 10 (some 33) ?_ ?_ ?_
          rotate_left
          · intro w _; go_simp; (try with_reducible rfl)
          (try simp only [cq])
          refine tkN 11 (some 34) ?_
          (try simp only [cq])
          refine tkN 12 (some 35) ?_
          (try simp only [cq])
          refine tkN 13 (some 36) ?_
          (try simp only [cq])
          refine tkN 14 (some 37) ?_
          (try simp only [cq])
          refine tkN 15 (some 38) ?_
          (try simp only [cq])
          refine tkN 16 (some 39) ?_
          (try simp only [cq])
          refine tkN 17 (some 40) ?_
          (try simp only [cq])
          refine tkN 18 (some 41) ?_
          (try simp only [cq])
          refine tkN 19 (some 42) ?_
          (try simp only [cq])
          refine tkN 20 (some 43) ?_
          (try simp only [cq])
          refine tkN 21 (some 44) ?_
          (try simp only [cq])
          refine tkN 22 (some 45) ?_
          (try simp only [cq])
          refine tkN 23 (some 46) ?_
          (try simp only [cq])
          refine tkN 24 (some 47) ?_
          (try simp only [cq])
          refine tkN 25 (some 48) ?_
          (try simp only [cq])
          refine tkN 26 (some 49) ?_
          (try simp only [cq])
          refine tkY 27 (some 50) ?_ ?_ ?_
          rotate_left
          · intro w _; go_simp; (try with_reducible rfl)
          (try simp only [cq])
          refine wpAnyH_done (by kernel_rfl) ?_ _
          (try dsimp only [Act.put])
          (try simp only [cq])
          replace hB := bwS hB (Nat.le_refl _) hH
          clear hH
          go_wp2_with fail
          go_ret
          exact ⟨ret_int e2.out.symm, hB⟩
        have hp2 : (p != 0) = false := by simpa using hp
        have HE4 := Lib.hid (HE3.out.trans (orE_right (by rw [hp]; rfl)))
        clear hp HE3
        refine wp_region_held_drew (S := (fun w' => Below wr.heap.size wr w')) (by kernel_rfl) ?_ (fun hH => ?_)
        · (try dsimp only); (exact (Below.refl _ _).drew)
        refine tkY 0 (some 23) ?_ ?_ ?_
        rotate_left
        · intro w _; go_simp; (try with_reducible rfl)
        (try simp only [cq])
        refine tkY 1 (some 24) ?_ ?_ ?_
        rotate_left
        · intro w _; go_simp; (try with_reducible rfl)
        (try simp only [cq])
        refine tkY 2 (some 25) ?_ ?_ ?_
        rotate_left
        · intro w _; go_simp; (try with_reducible rfl)
        (try simp only [cq])
        refine tkY 3 (some 26) ?_ ?_ ?_
        rotate_left
        · intro w _; go_simp; (try with_reducible rfl)
        (try simp only [cq])
        refine tkY 4 (some 27) ?_ ?_ ?_
        rotate_left
        · intro w _; go_simp; (try with_reducible rfl)
        (try simp only [cq])
        refine tkY 5 (some 28) ?_ ?_ ?_
        rotate_left
        · intro w hS0; (try dsimp only at hS0); have qx0 := cell_later hS0 x0;go_simp; (try with_reducible rfl)
        (try simp only [cq])
        refine tkY 6 (some 29) ?_ ?_ ?_
        rotate_left
        · intro w hS0; (try dsimp only at hS0); have qx0 := cell_later hS0 x0;go_simp; (try with_reducible rfl)
        (try simp only [cq])
        refine tkY 7 (some 30) ?_ ?_ ?_
        rotate_left
        · intro w hS0; (try dsimp only at hS0); have qx0 := cell_later hS0 x0;go_simp; (try with_reducible rfl)
        (try simp only [cq])
        refine tkY 8 (some 31) ?_ ?_ ?_
        rotate_left
        · intro w _; go_simp; (try with_reducible rfl)
        (try simp only [cq])
        refine tkY 9 (some 32) ?_ ?_ ?_
        rotate_left
        · intro w _; go_simp; (try with_reducible rfl)
        (try simp only [cq])
        refine tkY 10 (some 33) ?_ ?_ ?_
        rotate_left
        · intro w _; go_simp; (try with_reducible rfl)
        (try simp only [cq])
        refine tkY 11 (some 34) ?_ ?_ ?_
        rotate_left
        · intro w _; go_simp; (try with_reducible rfl)
        (try simp only [cq])
        refine tkY 12 (some 35) ?_ ?_ ?_
        rotate_left
        · intro w _; go_simp; (try with_reducible rfl)
        (try simp only [cq])
        refine tkY 13 (some 36) ?_ ?_ ?_
        rotate_left
        · intro w _; go_simp; (try with_reducible rfl)
        (try simp only [cq])
        refine tkN 14 (some 37) ?_
        (try simp only [cq])
        refine tkN 15 (some 38) ?_
        (try simp only [cq])
        refine tkN 16 (some 39) ?_
        (try simp only [cq])
        refine tkN 17 (some 40) ?_
        (try simp only [cq])
        refine tkN 18 (some 41) ?_
        (try simp only [cq])
        refine tkN 19 (some 42) ?_
        (try simp only [cq])
        refine tkN 20 (some 43) ?_
        (try simp only [cq])
        refine tkN 21 (some 44) ?_
        (try simp only [cq])
        refine tkN 22 (some 45) ?_
        (try simp only [cq])
        refine tkN 23 (some 46) ?_
        (try simp only [cq])
        refine tkN 24 (some 47) ?_
        (try simp only [cq])
        refine tkN 25 (some 48) ?_
        (try simp only [cq])
        refine tkY 26 (some 49) ?_ ?_ ?_
        rotate_left
        · intro w _; go_simp; (try with_reducible rfl)
        (try simp only [cq])
        refine tkY 27 (some 50) ?_ ?_ ?_
        rotate_left
        · intro w _; go_simp; (try with_reducible rfl)
        (try simp only [cq])
        refine wpAnyH_done (by kernel_rfl) ?_ _
        (try dsimp only [Act.put])
        (try simp only [cq])
        replace x1 := cell_later hH x1
        replace x2 := cell_later hH x2
        replace hB := bwS hB (Nat.le_refl _) hH
        clear hH
        have hbs := World.block_lt_of_cell? _ _ x1
        clear x0 hp2
        go_wp2_with fail
        refine (rspan_any _ _ _ _ _).mono ?_
        rintro e w5 ⟨rfl, hb⟩
        replace hB := bwS hB (Nat.le_refl _) hb
        clear x1 x2 hb hbs
        by_cases z1 : eS q r 0 1000000 = 0
        case neg =>
          have e1 := HE4.out.trans (orE_left z1)
          have e2 := Lib.hid ((HN2.out (by rw [e1]; exact z1)).trans e1)
          have z2 : (eS q r 0 1000000 != 0) = true := by simpa using z1
          clear e1 z1
          go_wp2
          go_ret
          exact ⟨ret_int e2.out.symm, hB⟩
        have z2 : (eS q r 0 1000000 != 0) = false := by simpa using z1
        have z3 := eS_zero_in z1
        have e1 := Lib.hid (HZ2.out (HE4.out.trans ((orE_right z1).trans (by rw [show decide (q ≤ 1000000) = true by simp; omega, show decide (r ≤ 1000000) = true by simp; omega]; rfl))))
        clear z1 z3
        go_upto_region 15 with fail
        refine wp_region_held_drew (S := (fun w' => Below w5.heap.size w5 w')) (by kernel_rfl) ?_ (fun hH => ?_)
        · (try dsimp only); (exact (Below.refl _ _).drew)
        refine tkY 0 (some 60) ?_ ?_ ?_
        rotate_left
        · intro w _; go_simp; (try with_reducible rfl)
        (try simp only [cq])
        refine tkY 1 (some 61) ?_ ?_ ?_
        rotate_left
        · intro w _; go_simp; (try with_reducible rfl)
        (try simp only [cq])
        refine tkY 2 (some 62) ?_ ?_ ?_
        rotate_left
        · intro w _; go_simp; (try with_reducible rfl)
        (try simp only [cq])
        refine tkN 3 (some 63) ?_
        (try simp only [cq])
        refine tkN 4 (some 64) ?_
        (try simp only [cq])
        refine tkN 5 (some 65) ?_
        (try simp only [cq])
        refine tkN 6 (some 66) ?_
        (try simp only [cq])
        refine tkN 7 (some 67) ?_
        (try simp only [cq])
        refine tkN 8 (some 68) ?_
        (try simp only [cq])
        refine tkN 9 (some 69) ?_
        (try simp only [cq])
        refine tkN 10 (some 70) ?_
        (try simp only [cq])
        refine tkN 11 (some 71) ?_
        (try simp only [cq])
        refine tkN 12 (some 72) ?_
        (try simp only [cq])
        refine tkN 13 (some 73) ?_
        (try simp only [cq])
        refine tkN 14 (some 74) ?_
        (try simp only [cq])
        refine tkN 15 (some 75) ?_
        (try simp only [cq])
        refine tkN 16 (some 76) ?_
        (try simp only [cq])
        refine tkN 17 (some 77) ?_
        (try simp only [cq])
        refine tkN 18 (some 78) ?_
        (try simp only [cq])
        refine tkN 19 (some 79) ?_
        (try simp only [cq])
        refine tkN 20 (some 80) ?_
        (try simp only [cq])
        refine tkN 21 (some 81) ?_
        (try simp only [cq])
        refine tkN 22 (some 82) ?_
        (try simp only [cq])
        refine tkN 23 (some 83) ?_
        (try simp only [cq])
        refine tkN 24 (some 84) ?_
        (try simp only [cq])
        refine tkN 25 (some 85) ?_
        (try simp only [cq])
        refine tkN 26 (some 86) ?_
        (try simp only [cq])
        refine tkN 27 (some 87) ?_
        (try simp only [cq])
        refine tkN 28 (some 88) ?_
        (try simp only [cq])
        refine tkN 29 (some 89) ?_
        (try simp only [cq])
        refine tkN 30 (some 90) ?_
        (try simp only [cq])
        refine tkN 31 (some 91) ?_
        (try simp only [cq])
        refine tkN 32 (some 92) ?_
        (try simp only [cq])
        refine tkY 33 (some 93) ?_ ?_ ?_
        rotate_left
        · intro w _; go_simp; (try with_reducible rfl)
        (try simp only [cq])
        refine wpAnyH_done (by kernel_rfl) ?_ _
        (try dsimp only [Act.put])
        (try simp only [cq])
        replace hB := bwS hB (Nat.le_refl _) hH
        clear hH
        go_wp2_with fail
        go_roundw
        case rel => exact ⟨0 + 1, by omega, by go_num, e1.out, hB⟩
        case measure => simp [intOf]; omega
      · obtain ⟨j, hj⟩ : ∃ j, k = j + 1 := ⟨k - 1, by omega⟩
        have hjn : j < n := by omega
        obtain ⟨y0, y1, y2⟩ := HC.out j hjn
        replace y0 := cell_later hB y0
        replace y1 := cell_later hB y1
        replace y2 := cell_later hB y2
        have HE2 := Lib.hid (show covErr D P0 P1 k = orE (eN (D k) 0 5000) (orE (eO (decide (D j < D k))) (orE (eS (P0 k) (P1 k) 0 1000000) (eO (decide (P0 k ≤ P0 j) && decide (P1 k ≤ P1 j))))) by
          unfold covErr
          rw [if_neg (by omega), show k - 1 = j by omega]
          rfl)
        have e1 : IntKind.i64.wrap ((k : Int) - 1) = (j : Int) := by rw [IntWalk.i64_in _ (by omega)]; omega
        have k1 : ((k : Int) == 0) = false := by simp; omega
        have k2 : decide ((0 : Int) < (k : Int)) = true := by simp; omega
        have k3 : decide (0 < k) = true := by simp; omega
        have k4 : (k == 0) = false := by simp; omega
        have k5 : 0 < k := by omega
        have kn : k ≤ n := hk
        generalize D k = p at x0 HE2
        generalize P0 k = q at x1 HE2
        generalize P1 k = r at x2 HE2
        generalize D j = p' at y0 HE2
        generalize P0 j = q' at y1 HE2
        generalize P1 j = r' at y2 HE2
        generalize covErr D P0 P1 k = E at HE2 HN2 HZ2
        clear hj hk0
        go_wp2_with fail
        refine (rout_any _ _ _ _).mono ?_
        rintro e w4 ⟨rfl, rfl⟩
        cases hob : outB p 0 5000 with
        | true =>
          have e2 := HE2.out.trans ((orE_left (by rw [eN_out hob]; decide)).trans (eN_out hob))
          have e3 := Lib.hid ((HN2.out (by rw [e2]; decide)).trans e2)
          clear hob e2
          go_wp2
          go_ret
          exact ⟨ret_int e3.out.symm, hB⟩
        | false =>
        have HE3 := Lib.hid (HE2.out.trans (orE_right (eN_in hob)))
        clear hob HE2
        go_upto_region 10 with fail
        by_cases hp : p' < p
        case neg =>
          have hp2 : decide (p ≤ p') = true := by simp; omega
          have hp3 : decide (p' < p) = false := by simp; omega
          have e2 : E = 11 := HE3.out.trans (by rw [hp3]; rfl)
          have e3 := Lib.hid ((HN2.out (by rw [e2]; decide)).trans e2)
          clear e2 hp hp3
          refine wp_region_held_drew (S := (fun w' => Below wr.heap.size wr w')) (by kernel_rfl) ?_ (fun hH => ?_)
          · (try dsimp only); (exact (Below.refl _ _).drew)
          refine tkY 0 (some 23) ?_ ?_ ?_
          rotate_left
          · intro w _; go_simp; (try with_reducible rfl)
          (try simp only [cq])
          refine tkY 1 (some 24) ?_ ?_ ?_
          rotate_left
          · intro w _; go_simp; (try with_reducible rfl)
          (try simp only [cq])
          refine tkY 2 (some 25) ?_ ?_ ?_
          rotate_left
          · intro w _; go_simp; (try with_reducible rfl)
          (try simp only [cq])
          refine tkN 3 (some 26) ?_
          (try simp only [cq])
          refine tkN 4 (some 27) ?_
          (try simp only [cq])
          refine tkN 5 (some 28) ?_
          (try simp only [cq])
          refine tkN 6 (some 29) ?_
          (try simp only [cq])
          refine tkN 7 (some 30) ?_
          (try simp only [cq])
          refine tkN 8 (some 31) ?_
          (try simp only [cq])
          refine tkY 9 (some 32) ?_ ?_ ?_
          rotate_left
          · intro w _; go_simp; (try with_reducible rfl)
          (try simp only [cq])
          refine tkY 10 (some 33) ?_ ?_ ?_
          rotate_left
          · intro w _; go_simp; (try with_reducible rfl)
          (try simp only [cq])
          refine tkY 11 (some 34) ?_ ?_ ?_
          rotate_left
          · intro w _; go_simp; (try with_reducible rfl)
          (try simp only [cq])
          refine tkY 12 (some 35) ?_ ?_ ?_
          rotate_left
          · intro w _; go_simp; (try with_reducible rfl)
          (try simp only [cq])
          refine tkY 13 (some 36) ?_ ?_ ?_
          rotate_left
          · intro w _; go_simp; (try with_reducible rfl)
          (try simp only [cq])
          refine tkY 14 (some 37) ?_ ?_ ?_
          rotate_left
          · intro w _; go_simp; (try with_reducible rfl)
          (try simp only [cq])
          refine tkY 15 (some 38) ?_ ?_ ?_
          rotate_left
          · intro w _; go_simp; (try with_reducible rfl)
          (try simp only [cq])
          refine tkY 16 (some 39) ?_ ?_ ?_
          rotate_left
          · intro w hS0; (try dsimp only at hS0); have qx0 := cell_later hS0 x0; have qy0 := cell_later hS0 y0;go_simp; (try with_reducible rfl)
          (try simp only [cq])
          refine tkY 17 (some 40) ?_ ?_ ?_
          rotate_left
          · intro w hS0; (try dsimp only at hS0); have qx0 := cell_later hS0 x0; have qy0 := cell_later hS0 y0;go_simp; (try with_reducible rfl)
          (try simp only [cq])
          refine tkY 18 (some 41) ?_ ?_ ?_
          rotate_left
          · intro w hS0; (try dsimp only at hS0); have qx0 := cell_later hS0 x0; have qy0 := cell_later hS0 y0;go_simp; (try with_reducible rfl)
          (try simp only [cq])
          refine tkY 19 (some 42) ?_ ?_ ?_
          rotate_left
          · intro w _; go_simp; (try with_reducible rfl)
          (try simp only [cq])
          refine tkY 20 (some 43) ?_ ?_ ?_
          rotate_left
          · intro w _; go_simp; (try with_reducible rfl)
          (try simp only [cq])
          refine tkY 21 (some 44) ?_ ?_ ?_
          rotate_left
          · intro w _; go_simp; (try with_reducible rfl)
          (try simp only [cq])
          refine tkY 22 (some 45) ?_ ?_ ?_
          rotate_left
          · intro w hS0; (try dsimp only at hS0); have qx0 := cell_later hS0 x0; have qy0 := cell_later hS0 y0;go_simp; (try with_reducible rfl)
          (try simp only [cq])
          refine tkY 23 (some 46) ?_ ?_ ?_
          rotate_left
          · intro w hS0; (try dsimp only at hS0); have qx0 := cell_later hS0 x0; have qy0 := cell_later hS0 y0;go_simp; (try with_reducible rfl)
          (try simp only [cq])
          refine tkY 24 (some 47) ?_ ?_ ?_
          rotate_left
          · intro w hS0; (try dsimp only at hS0); have qx0 := cell_later hS0 x0; have qy0 := cell_later hS0 y0;go_simp; (try with_reducible rfl)
          (try simp only [cq])
          refine tkY 25 (some 48) ?_ ?_ ?_
          rotate_left
          · intro w _; go_simp; (try with_reducible rfl)
          (try simp only [cq])
          refine tkY 26 (some 49) ?_ ?_ ?_
          rotate_left
          · intro w _; go_simp; (try with_reducible rfl)
          (try simp only [cq])
          refine tkY 27 (some 50) ?_ ?_ ?_
          rotate_left
          · intro w _; go_simp; (try with_reducible rfl)
          (try simp only [cq])
          refine wpAnyH_done (by kernel_rfl) ?_ _
          (try dsimp only [Act.put])
          (try simp only [cq])
          replace hB := bwS hB (Nat.le_refl _) hH
          clear hH
          go_wp2_with fail
          go_ret
          exact ⟨ret_int e3.out.symm, hB⟩
        have hp2 : decide (p ≤ p') = false := by simp; omega
        have HE4 := Lib.hid (HE3.out.trans (orE_right (by rw [show decide (p' < p) = true by simp; omega]; rfl)))
        clear hp HE3
        refine wp_region_held_drew (S := (fun w' => Below wr.heap.size wr w')) (by kernel_rfl) ?_ (fun hH => ?_)
        · (try dsimp only); (exact (Below.refl _ _).drew)
        refine tkY 0 (some 23) ?_ ?_ ?_
        rotate_left
        · intro w _; go_simp; (try with_reducible rfl)
        (try simp only [cq])
        refine tkY 1 (some 24) ?_ ?_ ?_
        rotate_left
        · intro w _; go_simp; (try with_reducible rfl)
        (try simp only [cq])
        refine tkY 2 (some 25) ?_ ?_ ?_
        rotate_left
        · intro w _; go_simp; (try with_reducible rfl)
        (try simp only [cq])
        refine tkN 3 (some 26) ?_
        (try simp only [cq])
        refine tkN 4 (some 27) ?_
        (try simp only [cq])
        refine tkN 5 (some 28) ?_
        (try simp only [cq])
        refine tkN 6 (some 29) ?_
        (try simp only [cq])
        refine tkN 7 (some 30) ?_
        (try simp only [cq])
        refine tkN 8 (some 31) ?_
        (try simp only [cq])
        refine tkY 9 (some 32) ?_ ?_ ?_
        rotate_left
        · intro w _; go_simp; (try with_reducible rfl)
        (try simp only [cq])
        refine tkY 10 (some 33) ?_ ?_ ?_
        rotate_left
        · intro w _; go_simp; (try with_reducible rfl)
        (try simp only [cq])
        refine tkY 11 (some 34) ?_ ?_ ?_
        rotate_left
        · intro w _; go_simp; (try with_reducible rfl)
        (try simp only [cq])
        refine tkY 12 (some 35) ?_ ?_ ?_
        rotate_left
        · intro w _; go_simp; (try with_reducible rfl)
        (try simp only [cq])
        refine tkY 13 (some 36) ?_ ?_ ?_
        rotate_left
        · intro w _; go_simp; (try with_reducible rfl)
        (try simp only [cq])
        refine tkY 14 (some 37) ?_ ?_ ?_
        rotate_left
        · intro w _; go_simp; (try with_reducible rfl)
        (try simp only [cq])
        refine tkY 15 (some 38) ?_ ?_ ?_
        rotate_left
        · intro w _; go_simp; (try with_reducible rfl)
        (try simp only [cq])
        refine tkY 16 (some 39) ?_ ?_ ?_
        rotate_left
        · intro w hS0; (try dsimp only at hS0); have qx0 := cell_later hS0 x0; have qy0 := cell_later hS0 y0;go_simp; (try with_reducible rfl)
        (try simp only [cq])
        refine tkY 17 (some 40) ?_ ?_ ?_
        rotate_left
        · intro w hS0; (try dsimp only at hS0); have qx0 := cell_later hS0 x0; have qy0 := cell_later hS0 y0;go_simp; (try with_reducible rfl)
        (try simp only [cq])
        refine tkY 18 (some 41) ?_ ?_ ?_
        rotate_left
        · intro w hS0; (try dsimp only at hS0); have qx0 := cell_later hS0 x0; have qy0 := cell_later hS0 y0;go_simp; (try with_reducible rfl)
        (try simp only [cq])
        refine tkY 19 (some 42) ?_ ?_ ?_
        rotate_left
        · intro w _; go_simp; (try with_reducible rfl)
        (try simp only [cq])
        refine tkY 20 (some 43) ?_ ?_ ?_
        rotate_left
        · intro w _; go_simp; (try with_reducible rfl)
        (try simp only [cq])
        refine tkY 21 (some 44) ?_ ?_ ?_
        rotate_left
        · intro w _; go_simp; (try with_reducible rfl)
        (try simp only [cq])
        refine tkY 22 (some 45) ?_ ?_ ?_
        rotate_left
        · intro w hS0; (try dsimp only at hS0); have qx0 := cell_later hS0 x0; have qy0 := cell_later hS0 y0;go_simp; (try with_reducible rfl)
        (try simp only [cq])
        refine tkY 23 (some 46) ?_ ?_ ?_
        rotate_left
        · intro w hS0; (try dsimp only at hS0); have qx0 := cell_later hS0 x0; have qy0 := cell_later hS0 y0;go_simp; (try with_reducible rfl)
        (try simp only [cq])
        refine tkY 24 (some 47) ?_ ?_ ?_
        rotate_left
        · intro w hS0; (try dsimp only at hS0); have qx0 := cell_later hS0 x0; have qy0 := cell_later hS0 y0;go_simp; (try with_reducible rfl)
        (try simp only [cq])
        refine tkY 25 (some 48) ?_ ?_ ?_
        rotate_left
        · intro w _; go_simp; (try with_reducible rfl)
        (try simp only [cq])
        refine tkY 26 (some 49) ?_ ?_ ?_
        rotate_left
        · intro w _; go_simp; (try with_reducible rfl)
        (try simp only [cq])
        refine tkY 27 (some 50) ?_ ?_ ?_
        rotate_left
        · intro w _; go_simp; (try with_reducible rfl)
        (try simp only [cq])
        refine wpAnyH_done (by kernel_rfl) ?_ _
        (try dsimp only [Act.put])
        (try simp only [cq])
        replace x1 := cell_later hH x1
        replace x2 := cell_later hH x2
        replace y1 := cell_later hH y1
        replace y2 := cell_later hH y2
        replace hB := bwS hB (Nat.le_refl _) hH
        clear hH
        replace hbs := World.block_lt_of_cell? _ _ x1
        clear x0 y0 hp2
        go_wp2_with fail
        refine (rspan_any _ _ _ _ _).mono ?_
        rintro e w5 ⟨rfl, hb⟩
        replace x1 := cell_later hb x1
        replace x2 := cell_later hb x2
        replace y1 := cell_later hb y1
        replace y2 := cell_later hb y2
        replace hB := bwS hB (Nat.le_refl _) hb
        clear hb hbs
        by_cases z1 : eS q r 0 1000000 = 0
        case neg =>
          have e2 := HE4.out.trans (orE_left z1)
          have e3 := Lib.hid ((HN2.out (by rw [e2]; exact z1)).trans e2)
          have z2 : (eS q r 0 1000000 != 0) = true := by simpa using z1
          clear e2 z1
          go_wp2
          go_ret
          exact ⟨ret_int e3.out.symm, hB⟩
        have z2 : (eS q r 0 1000000 != 0) = false := by simpa using z1
        have HE5 := Lib.hid (HE4.out.trans (orE_right z1))
        clear z1 HE4
        go_upto_region 15 with fail
        by_cases hq : q ≤ q'
        case neg =>
          have hq2 : decide (q' < q) = true := by simp; omega
          have e2 : E = 11 := HE5.out.trans (by rw [show decide (q ≤ q') = false by simp; omega]; rfl)
          have e3 := Lib.hid ((HN2.out (by rw [e2]; decide)).trans e2)
          clear e2 hq
          refine wp_region_held_drew (S := (fun w' => Below w5.heap.size w5 w')) (by kernel_rfl) ?_ (fun hH => ?_)
          · (try dsimp only); (exact (Below.refl _ _).drew)
          refine tkY 0 (some 60) ?_ ?_ ?_
          rotate_left
          · intro w _; go_simp; (try with_reducible rfl)
          (try simp only [cq])
          refine tkY 1 (some 61) ?_ ?_ ?_
          rotate_left
          · intro w _; go_simp; (try with_reducible rfl)
          (try simp only [cq])
          refine tkY 2 (some 62) ?_ ?_ ?_
          rotate_left
          · intro w _; go_simp; (try with_reducible rfl)
          (try simp only [cq])
          refine tkY 3 (some 63) ?_ ?_ ?_
          rotate_left
          · intro w _; go_simp; (try with_reducible rfl)
          (try simp only [cq])
          refine tkY 4 (some 64) ?_ ?_ ?_
          rotate_left
          · intro w _; go_simp; (try with_reducible rfl)
          (try simp only [cq])
          refine tkY 5 (some 65) ?_ ?_ ?_
          rotate_left
          · intro w hS0; (try dsimp only at hS0); have qx1 := cell_later hS0 x1; have qy1 := cell_later hS0 y1;go_simp; (try with_reducible rfl)
          (try simp only [cq])
          refine tkY 6 (some 66) ?_ ?_ ?_
          rotate_left
          · intro w hS0; (try dsimp only at hS0); have qx1 := cell_later hS0 x1; have qy1 := cell_later hS0 y1;go_simp; (try with_reducible rfl)
          (try simp only [cq])
          refine tkY 7 (some 67) ?_ ?_ ?_
          rotate_left
          · intro w hS0; (try dsimp only at hS0); have qx1 := cell_later hS0 x1; have qy1 := cell_later hS0 y1;go_simp; (try with_reducible rfl)
          (try simp only [cq])
          refine tkY 8 (some 68) ?_ ?_ ?_
          rotate_left
          · intro w hS0; (try dsimp only at hS0); have qx1 := cell_later hS0 x1; have qy1 := cell_later hS0 y1;go_simp; (try with_reducible rfl)
          (try simp only [cq])
          refine tkY 9 (some 69) ?_ ?_ ?_
          rotate_left
          · intro w _; go_simp; (try with_reducible rfl)
          (try simp only [cq])
          refine tkY 10 (some 70) ?_ ?_ ?_
          rotate_left
          · intro w _; go_simp; (try with_reducible rfl)
          (try simp only [cq])
          refine tkY 11 (some 71) ?_ ?_ ?_
          rotate_left
          · intro w _; go_simp; (try with_reducible rfl)
          (try simp only [cq])
          refine tkY 12 (some 72) ?_ ?_ ?_
          rotate_left
          · intro w hS0; (try dsimp only at hS0); have qx1 := cell_later hS0 x1; have qy1 := cell_later hS0 y1;go_simp; (try with_reducible rfl)
          (try simp only [cq])
          refine tkY 13 (some 73) ?_ ?_ ?_
          rotate_left
          · intro w hS0; (try dsimp only at hS0); have qx1 := cell_later hS0 x1; have qy1 := cell_later hS0 y1;go_simp; (try with_reducible rfl)
          (try simp only [cq])
          refine tkY 14 (some 74) ?_ ?_ ?_
          rotate_left
          · intro w hS0; (try dsimp only at hS0); have qx1 := cell_later hS0 x1; have qy1 := cell_later hS0 y1;go_simp; (try with_reducible rfl)
          (try simp only [cq])
          refine tkY 15 (some 75) ?_ ?_ ?_
          rotate_left
          · intro w hS0; (try dsimp only at hS0); have qx1 := cell_later hS0 x1; have qy1 := cell_later hS0 y1;go_simp; (try with_reducible rfl)
          (try simp only [cq])
          refine tkY 16 (some 76) ?_ ?_ ?_
          rotate_left
          · intro w _; go_simp; (try with_reducible rfl)
          (try simp only [cq])
          refine tkY 17 (some 77) ?_ ?_ ?_
          rotate_left
          · intro w _; go_simp; (try with_reducible rfl)
          (try simp only [cq])
          refine tkN 18 (some 78) ?_
          (try simp only [cq])
          refine tkN 19 (some 79) ?_
          (try simp only [cq])
          refine tkN 20 (some 80) ?_
          (try simp only [cq])
          refine tkN 21 (some 81) ?_
          (try simp only [cq])
          refine tkN 22 (some 82) ?_
          (try simp only [cq])
          refine tkN 23 (some 83) ?_
          (try simp only [cq])
          refine tkN 24 (some 84) ?_
          (try simp only [cq])
          refine tkN 25 (some 85) ?_
          (try simp only [cq])
          refine tkN 26 (some 86) ?_
          (try simp only [cq])
          refine tkN 27 (some 87) ?_
          (try simp only [cq])
          refine tkN 28 (some 88) ?_
          (try simp only [cq])
          refine tkN 29 (some 89) ?_
          (try simp only [cq])
          refine tkN 30 (some 90) ?_
          (try simp only [cq])
          refine tkN 31 (some 91) ?_
          (try simp only [cq])
          refine tkY 32 (some 92) ?_ ?_ ?_
          rotate_left
          · intro w _; go_simp; (try with_reducible rfl)
          (try simp only [cq])
          refine tkY 33 (some 93) ?_ ?_ ?_
          rotate_left
          · intro w _; go_simp; (try with_reducible rfl)
          (try simp only [cq])
          refine wpAnyH_done (by kernel_rfl) ?_ _
          (try dsimp only [Act.put])
          (try simp only [cq])
          replace hB := bwS hB (Nat.le_refl _) hH
          clear hH
          go_wp2_with fail
          go_ret
          exact ⟨ret_int e3.out.symm, hB⟩
        have hq2 : decide (q' < q) = false := by simp; omega
        by_cases hr : r ≤ r'
        case neg =>
          have hr2 : decide (r' < r) = true := by simp; omega
          have e2 : E = 11 := HE5.out.trans (by rw [show decide (r ≤ r') = false by simp; omega, Bool.and_false]; rfl)
          have e3 := Lib.hid ((HN2.out (by rw [e2]; decide)).trans e2)
          clear e2 hq hr
          refine wp_region_held_drew (S := (fun w' => Below w5.heap.size w5 w')) (by kernel_rfl) ?_ (fun hH => ?_)
          · (try dsimp only); (exact (Below.refl _ _).drew)
          refine tkY 0 (some 60) ?_ ?_ ?_
          rotate_left
          · intro w _; go_simp; (try with_reducible rfl)
          (try simp only [cq])
          refine tkY 1 (some 61) ?_ ?_ ?_
          rotate_left
          · intro w _; go_simp; (try with_reducible rfl)
          (try simp only [cq])
          refine tkY 2 (some 62) ?_ ?_ ?_
          rotate_left
          · intro w _; go_simp; (try with_reducible rfl)
          (try simp only [cq])
          refine tkY 3 (some 63) ?_ ?_ ?_
          rotate_left
          · intro w _; go_simp; (try with_reducible rfl)
          (try simp only [cq])
          refine tkY 4 (some 64) ?_ ?_ ?_
          rotate_left
          · intro w _; go_simp; (try with_reducible rfl)
          (try simp only [cq])
          refine tkY 5 (some 65) ?_ ?_ ?_
          rotate_left
          · intro w hS0; (try dsimp only at hS0); have qx1 := cell_later hS0 x1; have qy1 := cell_later hS0 y1; have qx2 := cell_later hS0 x2; have qy2 := cell_later hS0 y2;go_simp; (try with_reducible rfl)
          (try simp only [cq])
          refine tkY 6 (some 66) ?_ ?_ ?_
          rotate_left
          · intro w hS0; (try dsimp only at hS0); have qx1 := cell_later hS0 x1; have qy1 := cell_later hS0 y1; have qx2 := cell_later hS0 x2; have qy2 := cell_later hS0 y2;go_simp; (try with_reducible rfl)
          (try simp only [cq])
          refine tkY 7 (some 67) ?_ ?_ ?_
          rotate_left
          · intro w hS0; (try dsimp only at hS0); have qx1 := cell_later hS0 x1; have qy1 := cell_later hS0 y1; have qx2 := cell_later hS0 x2; have qy2 := cell_later hS0 y2;go_simp; (try with_reducible rfl)
          (try simp only [cq])
          refine tkY 8 (some 68) ?_ ?_ ?_
          rotate_left
          · intro w hS0; (try dsimp only at hS0); have qx1 := cell_later hS0 x1; have qy1 := cell_later hS0 y1; have qx2 := cell_later hS0 x2; have qy2 := cell_later hS0 y2;go_simp; (try with_reducible rfl)
          (try simp only [cq])
          refine tkY 9 (some 69) ?_ ?_ ?_
          rotate_left
          · intro w _; go_simp; (try with_reducible rfl)
          (try simp only [cq])
          refine tkY 10 (some 70) ?_ ?_ ?_
          rotate_left
          · intro w _; go_simp; (try with_reducible rfl)
          (try simp only [cq])
          refine tkY 11 (some 71) ?_ ?_ ?_
          rotate_left
          · intro w _; go_simp; (try with_reducible rfl)
          (try simp only [cq])
          refine tkY 12 (some 72) ?_ ?_ ?_
          rotate_left
          · intro w hS0; (try dsimp only at hS0); have qx1 := cell_later hS0 x1; have qy1 := cell_later hS0 y1; have qx2 := cell_later hS0 x2; have qy2 := cell_later hS0 y2;go_simp; (try with_reducible rfl)
          (try simp only [cq])
          refine tkY 13 (some 73) ?_ ?_ ?_
          rotate_left
          · intro w hS0; (try dsimp only at hS0); have qx1 := cell_later hS0 x1; have qy1 := cell_later hS0 y1; have qx2 := cell_later hS0 x2; have qy2 := cell_later hS0 y2;go_simp; (try with_reducible rfl)
          (try simp only [cq])
          refine tkY 14 (some 74) ?_ ?_ ?_
          rotate_left
          · intro w hS0; (try dsimp only at hS0); have qx1 := cell_later hS0 x1; have qy1 := cell_later hS0 y1; have qx2 := cell_later hS0 x2; have qy2 := cell_later hS0 y2;go_simp; (try with_reducible rfl)
          (try simp only [cq])
          refine tkY 15 (some 75) ?_ ?_ ?_
          rotate_left
          · intro w hS0; (try dsimp only at hS0); have qx1 := cell_later hS0 x1; have qy1 := cell_later hS0 y1; have qx2 := cell_later hS0 x2; have qy2 := cell_later hS0 y2;go_simp; (try with_reducible rfl)
          (try simp only [cq])
          refine tkY 16 (some 76) ?_ ?_ ?_
          rotate_left
          · intro w _; go_simp; (try with_reducible rfl)
          (try simp only [cq])
          refine tkY 17 (some 77) ?_ ?_ ?_
          rotate_left
          · intro w _; go_simp; (try with_reducible rfl)
          (try simp only [cq])
          refine tkY 18 (some 78) ?_ ?_ ?_
          rotate_left
          · intro w _; go_simp; (try with_reducible rfl)
          (try simp only [cq])
          refine tkY 19 (some 79) ?_ ?_ ?_
          rotate_left
          · intro w _; go_simp; (try with_reducible rfl)
          (try simp only [cq])
          refine tkY 20 (some 80) ?_ ?_ ?_
          rotate_left
          · intro w hS0; (try dsimp only at hS0); have qx1 := cell_later hS0 x1; have qy1 := cell_later hS0 y1; have qx2 := cell_later hS0 x2; have qy2 := cell_later hS0 y2;go_simp; (try with_reducible rfl)
          (try simp only [cq])
          refine tkY 21 (some 81) ?_ ?_ ?_
          rotate_left
          · intro w hS0; (try dsimp only at hS0); have qx1 := cell_later hS0 x1; have qy1 := cell_later hS0 y1; have qx2 := cell_later hS0 x2; have qy2 := cell_later hS0 y2;go_simp; (try with_reducible rfl)
          (try simp only [cq])
          refine tkY 22 (some 82) ?_ ?_ ?_
          rotate_left
          · intro w hS0; (try dsimp only at hS0); have qx1 := cell_later hS0 x1; have qy1 := cell_later hS0 y1; have qx2 := cell_later hS0 x2; have qy2 := cell_later hS0 y2;go_simp; (try with_reducible rfl)
          (try simp only [cq])
          refine tkY 23 (some 83) ?_ ?_ ?_
          rotate_left
          · intro w hS0; (try dsimp only at hS0); have qx1 := cell_later hS0 x1; have qy1 := cell_later hS0 y1; have qx2 := cell_later hS0 x2; have qy2 := cell_later hS0 y2;go_simp; (try with_reducible rfl)
          (try simp only [cq])
          refine tkY 24 (some 84) ?_ ?_ ?_
          rotate_left
          · intro w _; go_simp; (try with_reducible rfl)
          (try simp only [cq])
          refine tkY 25 (some 85) ?_ ?_ ?_
          rotate_left
          · intro w _; go_simp; (try with_reducible rfl)
          (try simp only [cq])
          refine tkY 26 (some 86) ?_ ?_ ?_
          rotate_left
          · intro w _; go_simp; (try with_reducible rfl)
          (try simp only [cq])
          refine tkY 27 (some 87) ?_ ?_ ?_
          rotate_left
          · intro w hS0; (try dsimp only at hS0); have qx1 := cell_later hS0 x1; have qy1 := cell_later hS0 y1; have qx2 := cell_later hS0 x2; have qy2 := cell_later hS0 y2;go_simp; (try with_reducible rfl)
          (try simp only [cq])
          refine tkY 28 (some 88) ?_ ?_ ?_
          rotate_left
          · intro w hS0; (try dsimp only at hS0); have qx1 := cell_later hS0 x1; have qy1 := cell_later hS0 y1; have qx2 := cell_later hS0 x2; have qy2 := cell_later hS0 y2;go_simp; (try with_reducible rfl)
          (try simp only [cq])
          refine tkY 29 (some 89) ?_ ?_ ?_
          rotate_left
          · intro w hS0; (try dsimp only at hS0); have qx1 := cell_later hS0 x1; have qy1 := cell_later hS0 y1; have qx2 := cell_later hS0 x2; have qy2 := cell_later hS0 y2;go_simp; (try with_reducible rfl)
          (try simp only [cq])
          refine tkY 30 (some 90) ?_ ?_ ?_
          rotate_left
          · intro w hS0; (try dsimp only at hS0); have qx1 := cell_later hS0 x1; have qy1 := cell_later hS0 y1; have qx2 := cell_later hS0 x2; have qy2 := cell_later hS0 y2;go_simp; (try with_reducible rfl)
          (try simp only [cq])
          refine tkY 31 (some 91) ?_ ?_ ?_
          rotate_left
          · intro w _; go_simp; (try with_reducible rfl)
          (try simp only [cq])
          refine tkY 32 (some 92) ?_ ?_ ?_
          rotate_left
          · intro w _; go_simp; (try with_reducible rfl)
          (try simp only [cq])
          refine tkY 33 (some 93) ?_ ?_ ?_
          rotate_left
          · intro w _; go_simp; (try with_reducible rfl)
          (try simp only [cq])
          refine wpAnyH_done (by kernel_rfl) ?_ _
          (try dsimp only [Act.put])
          (try simp only [cq])
          replace hB := bwS hB (Nat.le_refl _) hH
          clear hH
          go_wp2_with fail
          go_ret
          exact ⟨ret_int e3.out.symm, hB⟩
        have hr2 : decide (r' < r) = false := by simp; omega
        have e3 := Lib.hid (HZ2.out (HE5.out.trans (by rw [show decide (q ≤ q') = true by simp; omega, show decide (r ≤ r') = true by simp; omega]; rfl)))
        clear hq hr
        refine wp_region_held_drew (S := (fun w' => Below w5.heap.size w5 w')) (by kernel_rfl) ?_ (fun hH => ?_)
        · (try dsimp only); (exact (Below.refl _ _).drew)
        refine tkY 0 (some 60) ?_ ?_ ?_
        rotate_left
        · intro w _; go_simp; (try with_reducible rfl)
        (try simp only [cq])
        refine tkY 1 (some 61) ?_ ?_ ?_
        rotate_left
        · intro w _; go_simp; (try with_reducible rfl)
        (try simp only [cq])
        refine tkY 2 (some 62) ?_ ?_ ?_
        rotate_left
        · intro w _; go_simp; (try with_reducible rfl)
        (try simp only [cq])
        refine tkY 3 (some 63) ?_ ?_ ?_
        rotate_left
        · intro w _; go_simp; (try with_reducible rfl)
        (try simp only [cq])
        refine tkY 4 (some 64) ?_ ?_ ?_
        rotate_left
        · intro w _; go_simp; (try with_reducible rfl)
        (try simp only [cq])
        refine tkY 5 (some 65) ?_ ?_ ?_
        rotate_left
        · intro w hS0; (try dsimp only at hS0); have qx1 := cell_later hS0 x1; have qy1 := cell_later hS0 y1; have qx2 := cell_later hS0 x2; have qy2 := cell_later hS0 y2;go_simp; (try with_reducible rfl)
        (try simp only [cq])
        refine tkY 6 (some 66) ?_ ?_ ?_
        rotate_left
        · intro w hS0; (try dsimp only at hS0); have qx1 := cell_later hS0 x1; have qy1 := cell_later hS0 y1; have qx2 := cell_later hS0 x2; have qy2 := cell_later hS0 y2;go_simp; (try with_reducible rfl)
        (try simp only [cq])
        refine tkY 7 (some 67) ?_ ?_ ?_
        rotate_left
        · intro w hS0; (try dsimp only at hS0); have qx1 := cell_later hS0 x1; have qy1 := cell_later hS0 y1; have qx2 := cell_later hS0 x2; have qy2 := cell_later hS0 y2;go_simp; (try with_reducible rfl)
        (try simp only [cq])
        refine tkY 8 (some 68) ?_ ?_ ?_
        rotate_left
        · intro w hS0; (try dsimp only at hS0); have qx1 := cell_later hS0 x1; have qy1 := cell_later hS0 y1; have qx2 := cell_later hS0 x2; have qy2 := cell_later hS0 y2;go_simp; (try with_reducible rfl)
        (try simp only [cq])
        refine tkY 9 (some 69) ?_ ?_ ?_
        rotate_left
        · intro w _; go_simp; (try with_reducible rfl)
        (try simp only [cq])
        refine tkY 10 (some 70) ?_ ?_ ?_
        rotate_left
        · intro w _; go_simp; (try with_reducible rfl)
        (try simp only [cq])
        refine tkY 11 (some 71) ?_ ?_ ?_
        rotate_left
        · intro w _; go_simp; (try with_reducible rfl)
        (try simp only [cq])
        refine tkY 12 (some 72) ?_ ?_ ?_
        rotate_left
        · intro w hS0; (try dsimp only at hS0); have qx1 := cell_later hS0 x1; have qy1 := cell_later hS0 y1; have qx2 := cell_later hS0 x2; have qy2 := cell_later hS0 y2;go_simp; (try with_reducible rfl)
        (try simp only [cq])
        refine tkY 13 (some 73) ?_ ?_ ?_
        rotate_left
        · intro w hS0; (try dsimp only at hS0); have qx1 := cell_later hS0 x1; have qy1 := cell_later hS0 y1; have qx2 := cell_later hS0 x2; have qy2 := cell_later hS0 y2;go_simp; (try with_reducible rfl)
        (try simp only [cq])
        refine tkY 14 (some 74) ?_ ?_ ?_
        rotate_left
        · intro w hS0; (try dsimp only at hS0); have qx1 := cell_later hS0 x1; have qy1 := cell_later hS0 y1; have qx2 := cell_later hS0 x2; have qy2 := cell_later hS0 y2;go_simp; (try with_reducible rfl)
        (try simp only [cq])
        refine tkY 15 (some 75) ?_ ?_ ?_
        rotate_left
        · intro w hS0; (try dsimp only at hS0); have qx1 := cell_later hS0 x1; have qy1 := cell_later hS0 y1; have qx2 := cell_later hS0 x2; have qy2 := cell_later hS0 y2;go_simp; (try with_reducible rfl)
        (try simp only [cq])
        refine tkY 16 (some 76) ?_ ?_ ?_
        rotate_left
        · intro w _; go_simp; (try with_reducible rfl)
        (try simp only [cq])
        refine tkY 17 (some 77) ?_ ?_ ?_
        rotate_left
        · intro w _; go_simp; (try with_reducible rfl)
        (try simp only [cq])
        refine tkY 18 (some 78) ?_ ?_ ?_
        rotate_left
        · intro w _; go_simp; (try with_reducible rfl)
        (try simp only [cq])
        refine tkY 19 (some 79) ?_ ?_ ?_
        rotate_left
        · intro w _; go_simp; (try with_reducible rfl)
        (try simp only [cq])
        refine tkY 20 (some 80) ?_ ?_ ?_
        rotate_left
        · intro w hS0; (try dsimp only at hS0); have qx1 := cell_later hS0 x1; have qy1 := cell_later hS0 y1; have qx2 := cell_later hS0 x2; have qy2 := cell_later hS0 y2;go_simp; (try with_reducible rfl)
        (try simp only [cq])
        refine tkY 21 (some 81) ?_ ?_ ?_
        rotate_left
        · intro w hS0; (try dsimp only at hS0); have qx1 := cell_later hS0 x1; have qy1 := cell_later hS0 y1; have qx2 := cell_later hS0 x2; have qy2 := cell_later hS0 y2;go_simp; (try with_reducible rfl)
        (try simp only [cq])
        refine tkY 22 (some 82) ?_ ?_ ?_
        rotate_left
        · intro w hS0; (try dsimp only at hS0); have qx1 := cell_later hS0 x1; have qy1 := cell_later hS0 y1; have qx2 := cell_later hS0 x2; have qy2 := cell_later hS0 y2;go_simp; (try with_reducible rfl)
        (try simp only [cq])
        refine tkY 23 (some 83) ?_ ?_ ?_
        rotate_left
        · intro w hS0; (try dsimp only at hS0); have qx1 := cell_later hS0 x1; have qy1 := cell_later hS0 y1; have qx2 := cell_later hS0 x2; have qy2 := cell_later hS0 y2;go_simp; (try with_reducible rfl)
        (try simp only [cq])
        refine tkY 24 (some 84) ?_ ?_ ?_
        rotate_left
        · intro w _; go_simp; (try with_reducible rfl)
        (try simp only [cq])
        refine tkY 25 (some 85) ?_ ?_ ?_
        rotate_left
        · intro w _; go_simp; (try with_reducible rfl)
        (try simp only [cq])
        refine tkY 26 (some 86) ?_ ?_ ?_
        rotate_left
        · intro w _; go_simp; (try with_reducible rfl)
        (try simp only [cq])
        refine tkY 27 (some 87) ?_ ?_ ?_
        rotate_left
        · intro w hS0; (try dsimp only at hS0); have qx1 := cell_later hS0 x1; have qy1 := cell_later hS0 y1; have qx2 := cell_later hS0 x2; have qy2 := cell_later hS0 y2;go_simp; (try with_reducible rfl)
        (try simp only [cq])
        refine tkY 28 (some 88) ?_ ?_ ?_
        rotate_left
        · intro w hS0; (try dsimp only at hS0); have qx1 := cell_later hS0 x1; have qy1 := cell_later hS0 y1; have qx2 := cell_later hS0 x2; have qy2 := cell_later hS0 y2;go_simp; (try with_reducible rfl)
        (try simp only [cq])
        refine tkY 29 (some 89) ?_ ?_ ?_
        rotate_left
        · intro w hS0; (try dsimp only at hS0); have qx1 := cell_later hS0 x1; have qy1 := cell_later hS0 y1; have qx2 := cell_later hS0 x2; have qy2 := cell_later hS0 y2;go_simp; (try with_reducible rfl)
        (try simp only [cq])
        refine tkY 30 (some 90) ?_ ?_ ?_
        rotate_left
        · intro w hS0; (try dsimp only at hS0); have qx1 := cell_later hS0 x1; have qy1 := cell_later hS0 y1; have qx2 := cell_later hS0 x2; have qy2 := cell_later hS0 y2;go_simp; (try with_reducible rfl)
        (try simp only [cq])
        refine tkY 31 (some 91) ?_ ?_ ?_
        rotate_left
        · intro w _; go_simp; (try with_reducible rfl)
        (try simp only [cq])
        refine tkY 32 (some 92) ?_ ?_ ?_
        rotate_left
        · intro w _; go_simp; (try with_reducible rfl)
        (try simp only [cq])
        refine tkY 33 (some 93) ?_ ?_ ?_
        rotate_left
        · intro w _; go_simp; (try with_reducible rfl)
        (try simp only [cq])
        refine wpAnyH_done (by kernel_rfl) ?_ _
        (try dsimp only [Act.put])
        (try simp only [cq])
        replace hB := bwS hB (Nat.le_refl _) hH
        clear hH
        go_wp2_with fail
        go_roundw
        case rel => exact ⟨k + 1, by omega, by go_num, e3.out, hB⟩
        case measure => simp [intOf]; omega
    · go_wp2
      go_ret
      have : n - k = 0 := by omega
      exact ⟨by rw [HD.out, this]; rfl, hB⟩
end Go.Proofs.YtdbiijldincoiaaGreat

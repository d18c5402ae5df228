/-
  The reference's checkBurn (package sastrugiref06), exact for any burn.
-/
import Derived.Test.YtegdflikeoiaaaaTail
import Derived.Test.YtegdflikeoiaaaaRck
set_option linter.unusedVariables false
set_option linter.unusedSimpArgs false
namespace Go.Proofs.Ytegdflikeoiaaaa
open Go.RowKit

theorem eBu_co {U : Nat → Bu} {i : Nat} (h : (decide ((-1000) ≤ (U i).co) && decide ((U i).co ≤ 1000)) = false) : eBu U i = 2 := by
  unfold eBu; rw [eN_out h]; rfl
theorem eBu_or {U : Nat → Bu} {i : Nat} (h : (decide ((-1000) ≤ (U i).co) && decide ((U i).co ≤ 1000)) = true) (hp : ∃ j, i = j + 1 ∧ (U i).co ≤ (U j).co) : eBu U i = 11 := by
  obtain ⟨j, rfl, hp⟩ := hp
  unfold eBu; rw [eN_in h, Nat.add_sub_cancel, decide_eq_false (by omega : ¬ (U j).co < (U (j + 1)).co)]
  rw [show ((j + 1 : Nat) == 0) = false by simp]
  rfl
theorem eBu_ok {U : Nat → Bu} {i : Nat} (h : (decide ((-1000) ≤ (U i).co) && decide ((U i).co ≤ 1000)) = true) (hp : i = 0 ∨ ∃ j, i = j + 1 ∧ (U j).co < (U i).co) : eBu U i = eS (U i).lo (U i).hi 0 1000000000 := by
  unfold eBu; rw [eN_in h]
  rcases hp with rfl | ⟨j, rfl, hp⟩
  · rfl
  · rw [Nat.add_sub_cancel, decide_eq_true hp, Bool.or_true]; rfl

set_option maxRecDepth 100000 in
set_option maxHeartbeats 4000000 in
theorem rbur_any (n : Nat) (U : Nat → Bu) (v : Value) (w : World) (hU : BusAt w v n U) :
    Calls Try.prog 105 #[v] w fun e w' => e = .returned (.int .i64 (eBur n U)) ∧ Below w.heap.size w w' := by
  obtain ⟨a, cap, rfl, p1, p2, p3⟩ := hU
  have HA := Lib.hid p3
  clear p3
  by_cases h0 : n = 0
  · subst h0
    have hE : eBur 0 U = 6 := rfl
    rw [hE]
    have hB := Below.refl w.heap.size w
    go_enter Try.func105, Try.ntmps105
    go_wp2
    go_ret
    exact ⟨rfl, hB⟩
  have z0 : ((n : Int) == 0) = false := by simp; omega
  have hS : eSm n = 0 := by unfold eSm; rw [if_neg (by omega)]
  by_cases h12 : 12 < n
  · have hE : eBur n U = 8 := by unfold eBur; rw [hS]; unfold eL; rw [if_pos (by omega)]; rfl
    rw [hE]
    have hB := Below.refl w.heap.size w
    have z1 : (12 : Int) < n := by omega
    clear hE hS
    go_enter Try.func105, Try.ntmps105
    go_wp2
    go_ret
    exact ⟨rfl, hB⟩
  have hE : eBur n U = firstNZ (eBu U) 0 n := by unfold eBur; rw [hS]; unfold eL; rw [if_neg (by omega)]; rfl
  rw [hE]
  clear hE hS
  have z1 : ¬ (12 : Int) < n := by omega
  go_enter Try.func105, Try.ntmps105
  go_wp2_with fail
  go_loopw [3] (fun i wr => ∃ k : Nat, k ≤ n ∧ i = .int .i64 k ∧ firstNZ (eBu U) 0 n = firstNZ (eBu U) k (n - k) ∧ Below w.heap.size w wr) (fun i _ => n - (intOf i).toNat)
  case atStart => exact ⟨0, Nat.zero_le _, rfl, rfl, Below.refl _ _⟩
  case round =>
    obtain ⟨k, hk, rfl, hd, hB⟩ := hrel
    have HD := Lib.hid hd
    clear hd
    by_cases hlt : k < n
    · obtain ⟨b, o, ha, hc⟩ := HA.out (by omega)
      subst ha
      have hcU : AtC w b o n 3 (buC U) := hc
      clear hc
      obtain ⟨a0, a1, a2⟩ := hcU.c3 hlt rfl
      have HV := Lib.hid (fun (W : World) (hW : Below w.heap.size w W) => And.intro (cell_later hW a0) (And.intro (cell_later hW a1) (cell_later hW a2)))
      have HP := Lib.hid (fun (j : Nat) (hj : k = j + 1) (W : World) (hW : Below w.heap.size w W) => cell_later hW (hcU.c3 (i := j) (by omega) rfl).1)
      have H0 : Hid (∀ _ : eBu U k = 0, Hid _) := fun h => firstNZ_step0 (eBu U) n k (by omega) h
      have HN : Hid (∀ _ : ¬ eBu U k = 0, Hid _) := fun h => firstNZ_stepN (eBu U) n k (by omega) h
      have zb := World.block_lt_of_cell? _ _ a0
      have hltI : (k : Int) < n := by omega
      clear a0 a1 a2 hcU
      obtain ⟨x0, x1, x2⟩ := HV.out _ hB
      have K0 := Lib.hid (fun (W : World) => within_any (U k).co (-1000) 1000 W)
      have KS := Lib.hid (fun (W : World) => rsp_any (U k).lo (U k).hi 0 1000000000 W)
      go_wp2_with fail
      refine (K0.out _).mono ?_
      rintro e w2 ⟨rfl, hb⟩
      replace hB := bwS hB (Nat.le_refl _) hb
      clear hb K0 x0 x1 x2
      cases hw : (decide ((-1000) ≤ (U k).co) && decide ((U k).co ≤ 1000)) with
      | false =>
        have hE := eBu_co hw
        have HE := Lib.hid (HD.out.trans ((HN.out (by rw [hE]; decide)).out.trans hE))
        clear hw hE
        go_wp2
        go_ret
        exact ⟨by rw [HE.out]; rfl, hB⟩
      | true =>
        have HW := Lib.hid hw
        clear hw
        by_cases hk0 : k = 0
        · have HE := Lib.hid (eBu_ok HW.out (Or.inl hk0))
          have e0 : decide ((0 : Int) < k) = false := decide_eq_false (by omega)
          have e0' : decide (0 < k) = false := decide_eq_false (by omega)
          clear hk0
          go_upto_region 10 with fail
          refine wp_region_held_drew (S := (fun wx => Below w.heap.size w wx)) (by kernel_rfl) ?_ (fun hH => ?_)
          · (try dsimp only); (exact hB.drew)
          refine tkY 0 (some 24) ?_ ?_ ?_
          rotate_left
          · intro w _; go_simp; (try with_reducible rfl)
          (try simp only [cq])
          refine tkY 1 (some 25) ?_ ?_ ?_
          rotate_left
          · intro w _; go_simp; (try with_reducible rfl)
          (try simp only [cq])
          refine tkY 2 (some 26) ?_ ?_ ?_
          rotate_left
          · intro w _; go_simp; (try with_reducible rfl)
          (try simp only [cq])
          refine tkN 3 (some 27) ?_
          (try simp only [cq])
          refine tkN 4 (some 28) ?_
          (try simp only [cq])
          refine tkN 5 (some 29) ?_
          (try simp only [cq])
          refine tkN 6 (some 30) ?_
          (try simp only [cq])
          refine tkN 7 (some 31) ?_
          (try simp only [cq])
          refine tkN 8 (some 32) ?_
          (try simp only [cq])
          refine tkN 9 (some 33) ?_
          (try simp only [cq])
          refine tkN 10 (some 34) ?_
          (try simp only [cq])
          refine tkN 11 (some 35) ?_
          (try simp only [cq])
          refine tkN 12 (some 36) ?_
          (try simp only [cq])
          refine tkN 13 (some 37) ?_
          (try simp only [cq])
          refine tkN 14 (some 38) ?_
          (try simp only [cq])
          refine tkY 15 (some 39) ?_ ?_ ?_
          rotate_left
          · intro w _; go_simp; (try with_reducible rfl)
          (try simp only [cq])
          refine wpAnyH_done (by kernel_rfl) ?_ _
          (try dsimp only [Act.put])
          (try simp only [cq])
          have hB2 : Below w.heap.size w _ := hH
          clear hH hB
          obtain ⟨x0, x1, x2⟩ := HV.out _ hB2
          go_wp2_with fail
          refine (KS.out _).mono ?_
          rintro e w3 ⟨rfl, hb⟩
          replace hB2 := bwS hB2 (Nat.le_refl _) hb
          clear hb KS x0 x1 x2
          have hE := HE.out
          obtain ⟨z, hz⟩ : ∃ z, eS (U k).lo (U k).hi 0 1000000000 = z := ⟨_, rfl⟩
          rw [hz] at hE ⊢
          clear hz HE
          by_cases hz0 : z = 0
          · have HF := Lib.hid (HD.out.trans (H0.out (hE.trans hz0)).out)
            subst hz0
            clear hE H0 HN
            go_wp2
            go_roundw
            case rel => exact ⟨k + 1, by omega, by go_num, HF.out, hB2⟩
            case measure => simp [intOf]; omega
          · have HF := Lib.hid (HD.out.trans ((HN.out (by rw [hE]; exact hz0)).out.trans hE))
            have hz2 : (z != 0) = true := by simpa using hz0
            clear hE H0 HN
            go_wp2
            go_ret
            exact ⟨by rw [HF.out]; rfl, hB2⟩
        · obtain ⟨j, hj⟩ : ∃ j, k = j + 1 := ⟨k - 1, by omega⟩
          have HJ := Lib.hid (HP.out j hj)
          have e0 : decide ((0 : Int) < k) = true := decide_eq_true (by omega)
          have e0' : decide (0 < k) = true := decide_eq_true (by omega)
          have e1 : IntKind.i64.wrap ((k : Int) - 1) = (j : Int) := by rw [show (k : Int) - 1 = j by omega]; exact IntWalk.i64_in _ (by omega)
          have e2 : (j : Int) < n := by omega
          have e3 : j < n := by omega
          clear hk0
          by_cases hle : (U k).co ≤ (U j).co
          · have hE := eBu_or HW.out ⟨j, hj, hle⟩
            have HE := Lib.hid (HD.out.trans ((HN.out (by rw [hE]; decide)).out.trans hE))
            clear hE
            have HV2 := Lib.hid (fun (W : World) (hW : Below w.heap.size w W) => And.intro (HV.out W hW).1 (HJ.out W hW))
            clear hj
            go_upto_region 10 with fail
            refine wp_region_held_drew (S := (fun wx => Below w.heap.size w wx)) (by kernel_rfl) ?_ (fun hH => ?_)
            · (try dsimp only); (exact hB.drew)
            refine tkY 0 (some 24) ?_ ?_ ?_
            rotate_left
            · intro w _; go_simp; (try with_reducible rfl)
            (try simp only [cq])
            refine tkY 1 (some 25) ?_ ?_ ?_
            rotate_left
            · intro w _; go_simp; (try with_reducible rfl)
            (try simp only [cq])
            refine tkY 2 (some 26) ?_ ?_ ?_
            rotate_left
            · intro w _; go_simp; (try with_reducible rfl)
            (try simp only [cq])
            refine tkY 3 (some 27) ?_ ?_ ?_
            rotate_left
            · intro w _; go_simp; (try with_reducible rfl)
            (try simp only [cq])
            refine tkY 4 (some 28) ?_ ?_ ?_
            rotate_left
            · intro w _; go_simp; (try with_reducible rfl)
            (try simp only [cq])
            refine tkY 5 (some 29) ?_ ?_ ?_
            rotate_left
            · intro w hS0; (try dsimp only at hS0); obtain ⟨r0, r1⟩ := HV2.out _ hS0; have y1 := World.block_lt_of_cell? _ _ r0;go_simp; (try with_reducible rfl)
            (try simp only [cq])
            refine tkY 6 (some 30) ?_ ?_ ?_
            rotate_left
            · intro w hS0; (try dsimp only at hS0); obtain ⟨r0, r1⟩ := HV2.out _ hS0; have y1 := World.block_lt_of_cell? _ _ r0;go_simp; (try with_reducible rfl)
            (try simp only [cq])
            refine tkY 7 (some 31) ?_ ?_ ?_
            rotate_left
            · intro w hS0; (try dsimp only at hS0); obtain ⟨r0, r1⟩ := HV2.out _ hS0; have y1 := World.block_lt_of_cell? _ _ r0;go_simp; (try with_reducible rfl)
            (try simp only [cq])
            refine tkY 8 (some 32) ?_ ?_ ?_
            rotate_left
            · intro w _; go_simp; (try with_reducible rfl)
            (try simp only [cq])
            refine tkY 9 (some 33) ?_ ?_ ?_
            rotate_left
            · intro w _; go_simp; (try with_reducible rfl)
            (try simp only [cq])
            refine tkY 10 (some 34) ?_ ?_ ?_
            rotate_left
            · intro w _; go_simp; (try with_reducible rfl)
            (try simp only [cq])
            refine tkY 11 (some 35) ?_ ?_ ?_
            rotate_left
            · intro w hS0; (try dsimp only at hS0); obtain ⟨r0, r1⟩ := HV2.out _ hS0; have y1 := World.block_lt_of_cell? _ _ r0;go_simp; (try with_reducible rfl)
            (try simp only [cq])
            refine tkY 12 (some 36) ?_ ?_ ?_
            rotate_left
            · intro w hS0; (try dsimp only at hS0); obtain ⟨r0, r1⟩ := HV2.out _ hS0; have y1 := World.block_lt_of_cell? _ _ r0;go_simp; (try with_reducible rfl)
            (try simp only [cq])
            refine tkY 13 (some 37) ?_ ?_ ?_
            rotate_left
            · intro w hS0; (try dsimp only at hS0); obtain ⟨r0, r1⟩ := HV2.out _ hS0; have y1 := World.block_lt_of_cell? _ _ r0;go_simp; (try with_reducible rfl)
            (try simp only [cq])
            refine tkY 14 (some 38) ?_ ?_ ?_
            rotate_left
            · intro w _; go_simp; (try with_reducible rfl)
            (try simp only [cq])
            refine tkY 15 (some 39) ?_ ?_ ?_
            rotate_left
            · intro w _; go_simp; (try with_reducible rfl)
            (try simp only [cq])
            refine wpAnyH_done (by kernel_rfl) ?_ _
            (try dsimp only [Act.put])
            (try simp only [cq])
            go_wp2
            go_ret
            exact ⟨by rw [HE.out]; rfl, hH⟩
          · have HE := Lib.hid (eBu_ok HW.out (Or.inr ⟨j, hj, by omega⟩))
            have HV2 := Lib.hid (fun (W : World) (hW : Below w.heap.size w W) => And.intro (HV.out W hW).1 (HJ.out W hW))
            clear hj
            go_upto_region 10 with fail
            refine wp_region_held_drew (S := (fun wx => Below w.heap.size w wx)) (by kernel_rfl) ?_ (fun hH => ?_)
            · (try dsimp only); (exact hB.drew)
            refine tkY 0 (some 24) ?_ ?_ ?_
            rotate_left
            · intro w _; go_simp; (try with_reducible rfl)
            (try simp only [cq])
            refine tkY 1 (some 25) ?_ ?_ ?_
            rotate_left
            · intro w _; go_simp; (try with_reducible rfl)
            (try simp only [cq])
            refine tkY 2 (some 26) ?_ ?_ ?_
            rotate_left
            · intro w _; go_simp; (try with_reducible rfl)
            (try simp only [cq])
            refine tkY 3 (some 27) ?_ ?_ ?_
            rotate_left
            · intro w _; go_simp; (try with_reducible rfl)
            (try simp only [cq])
            refine tkY 4 (some 28) ?_ ?_ ?_
            rotate_left
            · intro w _; go_simp; (try with_reducible rfl)
            (try simp only [cq])
            refine tkY 5 (some 29) ?_ ?_ ?_
            rotate_left
            · intro w hS0; (try dsimp only at hS0); obtain ⟨r0, r1⟩ := HV2.out _ hS0; have y1 := World.block_lt_of_cell? _ _ r0;go_simp; (try with_reducible rfl)
            (try simp only [cq])
            refine tkY 6 (some 30) ?_ ?_ ?_
            rotate_left
            · intro w hS0; (try dsimp only at hS0); obtain ⟨r0, r1⟩ := HV2.out _ hS0; have y1 := World.block_lt_of_cell? _ _ r0;go_simp; (try with_reducible rfl)
            (try simp only [cq])
            refine tkY 7 (some 31) ?_ ?_ ?_
            rotate_left
            · intro w hS0; (try dsimp only at hS0); obtain ⟨r0, r1⟩ := HV2.out _ hS0; have y1 := World.block_lt_of_cell? _ _ r0;go_simp; (try with_reducible rfl)
            (try simp only [cq])
            refine tkY 8 (some 32) ?_ ?_ ?_
            rotate_left
            · intro w _; go_simp; (try with_reducible rfl)
            (try simp only [cq])
            refine tkY 9 (some 33) ?_ ?_ ?_
            rotate_left
            · intro w _; go_simp; (try with_reducible rfl)
            (try simp only [cq])
            refine tkY 10 (some 34) ?_ ?_ ?_
            rotate_left
            · intro w _; go_simp; (try with_reducible rfl)
            (try simp only [cq])
            refine tkY 11 (some 35) ?_ ?_ ?_
            rotate_left
            · intro w hS0; (try dsimp only at hS0); obtain ⟨r0, r1⟩ := HV2.out _ hS0; have y1 := World.block_lt_of_cell? _ _ r0;go_simp; (try with_reducible rfl)
            (try simp only [cq])
            refine tkY 12 (some 36) ?_ ?_ ?_
            rotate_left
            · intro w hS0; (try dsimp only at hS0); obtain ⟨r0, r1⟩ := HV2.out _ hS0; have y1 := World.block_lt_of_cell? _ _ r0;go_simp; (try with_reducible rfl)
            (try simp only [cq])
            refine tkY 13 (some 37) ?_ ?_ ?_
            rotate_left
            · intro w hS0; (try dsimp only at hS0); obtain ⟨r0, r1⟩ := HV2.out _ hS0; have y1 := World.block_lt_of_cell? _ _ r0;go_simp; (try with_reducible rfl)
            (try simp only [cq])
            refine tkY 14 (some 38) ?_ ?_ ?_
            rotate_left
            · intro w _; go_simp; (try with_reducible rfl)
            (try simp only [cq])
            refine tkY 15 (some 39) ?_ ?_ ?_
            rotate_left
            · intro w _; go_simp; (try with_reducible rfl)
            (try simp only [cq])
            refine wpAnyH_done (by kernel_rfl) ?_ _
            (try dsimp only [Act.put])
            (try simp only [cq])
            have hB2 : Below w.heap.size w _ := hH
            clear hH hB
            obtain ⟨x0, x1, x2⟩ := HV.out _ hB2
            go_wp2_with fail
            refine (KS.out _).mono ?_
            rintro e w3 ⟨rfl, hb⟩
            replace hB2 := bwS hB2 (Nat.le_refl _) hb
            clear hb KS x0 x1 x2
            have hE := HE.out
            obtain ⟨z, hz⟩ : ∃ z, eS (U k).lo (U k).hi 0 1000000000 = z := ⟨_, rfl⟩
            rw [hz] at hE ⊢
            clear hz HE
            by_cases hz0 : z = 0
            · have HF := Lib.hid (HD.out.trans (H0.out (hE.trans hz0)).out)
              subst hz0
              clear hE H0 HN
              go_wp2
              go_roundw
              case rel => exact ⟨k + 1, by omega, by go_num, HF.out, hB2⟩
              case measure => simp [intOf]; omega
            · have HF := Lib.hid (HD.out.trans ((HN.out (by rw [hE]; exact hz0)).out.trans hE))
              have hz2 : (z != 0) = true := by simpa using hz0
              clear hE H0 HN
              go_wp2
              go_ret
              exact ⟨by rw [HF.out]; rfl, hB2⟩
    · obtain rfl : k = n := by omega
      have HE := Lib.hid (HD.out.trans (by rw [Nat.sub_self]))
      go_wp2
      go_ret
      exact ⟨by rw [HE.out]; rfl, hB⟩
end Go.Proofs.Ytegdflikeoiaaaa

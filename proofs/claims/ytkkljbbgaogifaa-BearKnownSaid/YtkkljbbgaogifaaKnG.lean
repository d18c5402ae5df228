/-
  BearKnown's gaps and speeds say yes.
-/
import Derived.Test.YtkkljbbgaogifaaTail
import Derived.Test.YtkkljbbgaogifaaKnV
import Derived.Test.YtkkljbbgaogifaaGap2
import Derived.Test.YtkkljbbgaogifaaSpds
import Derived.Test.YtkkljbbgaogifaaShr3
set_option linter.unusedVariables false
set_option linter.unusedSimpArgs false
namespace Go.Proofs.Ytkkljbbgaogifaa
open Go.RowKit

theorem pairs_c1 {W : World} {b : Nat} {t : TypeId} {x : Int} (h : Blk W b #[.int .i64 x, .int .i64 x] t) : PairsAt W (.slice (some ⟨b, 0, none⟩) 1 1) 1 (fun _ => x) (fun _ => x) := by
  refine ⟨_, 1, rfl, by decide, by decide, fun _ => ⟨b, 0, rfl, fun i hi => ?_⟩⟩
  obtain rfl : i = 0 := by omega
  exact ⟨h.cell 0 rfl, h.cell 1 rfl⟩
theorem pairs_c2 {W : World} {b : Nat} {t : TypeId} {x : Int} (h : Blk W b #[.int .i64 x, .int .i64 x, .int .i64 x, .int .i64 x] t) : PairsAt W (.slice (some ⟨b, 0, none⟩) 2 2) 2 (fun _ => x) (fun _ => x) := by
  refine ⟨_, 2, rfl, by decide, by decide, fun _ => ⟨b, 0, rfl, fun i hi => ?_⟩⟩
  obtain rfl | rfl : i = 0 ∨ i = 1 := by omega
  · exact ⟨h.cell 0 rfl, h.cell 1 rfl⟩
  · exact ⟨h.cell 2 rfl, h.cell 3 rfl⟩
theorem pairs_c3 {W : World} {b : Nat} {t : TypeId} {x : Int} (h : Blk W b #[.int .i64 x, .int .i64 x, .int .i64 x, .int .i64 x, .int .i64 x, .int .i64 x] t) : PairsAt W (.slice (some ⟨b, 0, none⟩) 3 3) 3 (fun _ => x) (fun _ => x) := by
  refine ⟨_, 3, rfl, by decide, by decide, fun _ => ⟨b, 0, rfl, fun i hi => ?_⟩⟩
  obtain rfl | rfl | rfl : i = 0 ∨ i = 1 ∨ i = 2 := by omega
  · exact ⟨h.cell 0 rfl, h.cell 1 rfl⟩
  · exact ⟨h.cell 2 rfl, h.cell 3 rfl⟩
  · exact ⟨h.cell 4 rfl, h.cell 5 rfl⟩
theorem kn_gap1 : gapR pl0 500 2 (fun _ => 8000) (fun _ => 8000) = 100 ∧ eGap pl0 500 2 (fun _ => 8000) (fun _ => 8000) = 0 :=
  gap_is (k := 100) (by decide) (by decide) (fun _ _ => by decide) (by decide) (fun _ => by decide) (fun j hj => (by have e : j = 99 := (by omega); subst e; decide))
theorem kn_gap2 : gapR pl0 500 1 (fun _ => 10001) (fun _ => 10001) = -1 ∧ eGap pl0 500 1 (fun _ => 10001) (fun _ => 10001) = 0 :=
  gap_is (k := 10001) (by decide) (by decide) (fun _ _ => by decide) (by decide) (fun h => absurd h (by omega)) (fun j hj => (by have e : j = 10000 := (by omega); subst e; decide))
theorem kn_gap3 : gapR pl0 700 3 (fun _ => 8000) (fun _ => 8000) = 20 ∧ eGap pl0 700 3 (fun _ => 8000) (fun _ => 8000) = 0 :=
  gap_is (k := 20) (by decide) (by decide) (fun _ _ => by decide) (by decide) (fun _ => by decide) (fun j hj => (by have e : j = 19 := (by omega); subst e; decide))

set_option maxRecDepth 100000 in
set_option maxHeartbeats 8000000 in
theorem kgaps_any (w : World) : Calls Try.prog 52 #[] w fun e w' => e = .returned (.bool true) ∧ Below w.heap.size w w' := by
  have jB := Below.refl w.heap.size w
  go_enter Try.func52, Try.ntmps52
  go_wp2_with fail
  have jT := Blk.new w #[.int .i64 500, .int .i64 500, .int .i64 700] 3
  replace jB := bwA jB (Nat.le_refl _) (.cells #[.int .i64 500, .int .i64 500, .int .i64 700] 3)
  obtain ⟨bjT, hbjT⟩ : ∃ b, w.heap.size = b := ⟨_, rfl⟩
  (try rw [hbjT] at jT)
  (try rw [hbjT])
  clear hbjT
  generalize (w.alloc (.cells #[.int .i64 500, .int .i64 500, .int .i64 700] 3)) = V1 at jT  jB ⊢
  refine (kone_any _ _).mono ?_
  rintro e y1 ⟨rfl, hb⟩
  replace jT := jT.call hb
  replace jB := bwS jB (Nat.le_refl _) hb
  clear hb
  go_wp2_with fail
  refine (kone_any _ _).mono ?_
  rintro e y2 ⟨rfl, hb⟩
  replace jT := jT.call hb
  replace jB := bwS jB (Nat.le_refl _) hb
  clear hb
  go_wp2_with fail
  have jA := Blk.new y2 #[.int .i64 8000, .int .i64 8000, .int .i64 8000, .int .i64 8000] 23
  replace jT := jT.alloc (.cells #[.int .i64 8000, .int .i64 8000, .int .i64 8000, .int .i64 8000] 23)
  replace jB := bwA jB (Nat.le_refl _) (.cells #[.int .i64 8000, .int .i64 8000, .int .i64 8000, .int .i64 8000] 23)
  obtain ⟨bjA, hbjA⟩ : ∃ b, y2.heap.size = b := ⟨_, rfl⟩
  (try rw [hbjA] at jA)
  (try rw [hbjA])
  clear hbjA
  generalize (y2.alloc (.cells #[.int .i64 8000, .int .i64 8000, .int .i64 8000, .int .i64 8000] 23)) = V2 at jA jT jB ⊢
  refine (kone_any _ _).mono ?_
  rintro e y3 ⟨rfl, hb⟩
  replace jT := jT.call hb
  replace jA := jA.call hb
  replace jB := bwS jB (Nat.le_refl _) hb
  clear hb
  go_wp2_with fail
  have jC := Blk.new y3 #[.int .i64 10001, .int .i64 10001] 23
  replace jT := jT.alloc (.cells #[.int .i64 10001, .int .i64 10001] 23)
  replace jA := jA.alloc (.cells #[.int .i64 10001, .int .i64 10001] 23)
  replace jB := bwA jB (Nat.le_refl _) (.cells #[.int .i64 10001, .int .i64 10001] 23)
  obtain ⟨bjC, hbjC⟩ : ∃ b, y3.heap.size = b := ⟨_, rfl⟩
  (try rw [hbjC] at jC)
  (try rw [hbjC])
  clear hbjC
  generalize (y3.alloc (.cells #[.int .i64 10001, .int .i64 10001] 23)) = V3 at jC jT jA jB ⊢
  refine (kone_any _ _).mono ?_
  rintro e y4 ⟨rfl, hb⟩
  replace jT := jT.call hb
  replace jA := jA.call hb
  replace jC := jC.call hb
  replace jB := bwS jB (Nat.le_refl _) hb
  clear hb
  go_wp2_with fail
  refine (kone_any _ _).mono ?_
  rintro e y5 ⟨rfl, hb⟩
  replace jT := jT.call hb
  replace jA := jA.call hb
  replace jC := jC.call hb
  replace jB := bwS jB (Nat.le_refl _) hb
  clear hb
  go_wp2_with fail
  refine (kone_any _ _).mono ?_
  rintro e y6 ⟨rfl, hb⟩
  replace jT := jT.call hb
  replace jA := jA.call hb
  replace jC := jC.call hb
  replace jB := bwS jB (Nat.le_refl _) hb
  clear hb
  go_upto_region 2 with fail
  have jD := Blk.new y6 #[.int .i64 8000, .int .i64 8000, .int .i64 8000, .int .i64 8000, .int .i64 8000, .int .i64 8000] 23
  replace jT := jT.alloc (.cells #[.int .i64 8000, .int .i64 8000, .int .i64 8000, .int .i64 8000, .int .i64 8000, .int .i64 8000] 23)
  replace jA := jA.alloc (.cells #[.int .i64 8000, .int .i64 8000, .int .i64 8000, .int .i64 8000, .int .i64 8000, .int .i64 8000] 23)
  replace jC := jC.alloc (.cells #[.int .i64 8000, .int .i64 8000, .int .i64 8000, .int .i64 8000, .int .i64 8000, .int .i64 8000] 23)
  replace jB := bwA jB (Nat.le_refl _) (.cells #[.int .i64 8000, .int .i64 8000, .int .i64 8000, .int .i64 8000, .int .i64 8000, .int .i64 8000] 23)
  have jR := Blk.new1 y6 (.cells #[.int .i64 8000, .int .i64 8000, .int .i64 8000, .int .i64 8000, .int .i64 8000, .int .i64 8000] 23) #[.slice (some ⟨bjA, 0, none⟩) 2 2, .slice (some ⟨bjC, 0, none⟩) 1 1, .slice (some ⟨y6.heap.size, 0, none⟩) 3 3] 42
  have jD := jD.alloc (.cells #[.slice (some ⟨bjA, 0, none⟩) 2 2, .slice (some ⟨bjC, 0, none⟩) 1 1, .slice (some ⟨y6.heap.size, 0, none⟩) 3 3] 42)
  replace jT := jT.alloc (.cells #[.slice (some ⟨bjA, 0, none⟩) 2 2, .slice (some ⟨bjC, 0, none⟩) 1 1, .slice (some ⟨y6.heap.size, 0, none⟩) 3 3] 42)
  replace jA := jA.alloc (.cells #[.slice (some ⟨bjA, 0, none⟩) 2 2, .slice (some ⟨bjC, 0, none⟩) 1 1, .slice (some ⟨y6.heap.size, 0, none⟩) 3 3] 42)
  replace jC := jC.alloc (.cells #[.slice (some ⟨bjA, 0, none⟩) 2 2, .slice (some ⟨bjC, 0, none⟩) 1 1, .slice (some ⟨y6.heap.size, 0, none⟩) 3 3] 42)
  replace jB := bwA jB (Nat.le_refl _) (.cells #[.slice (some ⟨bjA, 0, none⟩) 2 2, .slice (some ⟨bjC, 0, none⟩) 1 1, .slice (some ⟨y6.heap.size, 0, none⟩) 3 3] 42)
  have jW := Blk.new2 y6 (.cells #[.int .i64 8000, .int .i64 8000, .int .i64 8000, .int .i64 8000, .int .i64 8000, .int .i64 8000] 23) (.cells #[.slice (some ⟨bjA, 0, none⟩) 2 2, .slice (some ⟨bjC, 0, none⟩) 1 1, .slice (some ⟨y6.heap.size, 0, none⟩) 3 3] 42) #[.int .i64 100, .int .i64 (-1), .int .i64 20] 3
  have jD := jD.alloc (.cells #[.int .i64 100, .int .i64 (-1), .int .i64 20] 3)
  have jR := jR.alloc (.cells #[.int .i64 100, .int .i64 (-1), .int .i64 20] 3)
  replace jT := jT.alloc (.cells #[.int .i64 100, .int .i64 (-1), .int .i64 20] 3)
  replace jA := jA.alloc (.cells #[.int .i64 100, .int .i64 (-1), .int .i64 20] 3)
  replace jC := jC.alloc (.cells #[.int .i64 100, .int .i64 (-1), .int .i64 20] 3)
  replace jB := bwA jB (Nat.le_refl _) (.cells #[.int .i64 100, .int .i64 (-1), .int .i64 20] 3)
  obtain ⟨bjD, hbjD⟩ : ∃ b, y6.heap.size = b := ⟨_, rfl⟩
  (try rw [hbjD] at jD)
  (try rw [hbjD] at jR)
  (try rw [hbjD] at jW)
  (try rw [hbjD] at jT)
  (try rw [hbjD] at jA)
  (try rw [hbjD] at jC)
  (try rw [hbjD] at jB)
  (try rw [hbjD])
  clear hbjD
  obtain ⟨bjR, hbjR⟩ : ∃ b, bjD + 1 = b := ⟨_, rfl⟩
  (try rw [hbjR] at jD)
  (try rw [hbjR] at jR)
  (try rw [hbjR] at jW)
  (try rw [hbjR] at jT)
  (try rw [hbjR] at jA)
  (try rw [hbjR] at jC)
  (try rw [hbjR] at jB)
  (try rw [hbjR])
  clear hbjR
  obtain ⟨bjW, hbjW⟩ : ∃ b, bjR + 1 = b := ⟨_, rfl⟩
  (try rw [hbjW] at jD)
  (try rw [hbjW] at jR)
  (try rw [hbjW] at jW)
  (try rw [hbjW] at jT)
  (try rw [hbjW] at jA)
  (try rw [hbjW] at jC)
  (try rw [hbjW] at jB)
  (try rw [hbjW])
  clear hbjW
  generalize (((y6.alloc (.cells #[.int .i64 8000, .int .i64 8000, .int .i64 8000, .int .i64 8000, .int .i64 8000, .int .i64 8000] 23)).alloc (.cells #[.slice (some ⟨bjA, 0, none⟩) 2 2, .slice (some ⟨bjC, 0, none⟩) 1 1, .slice (some ⟨bjD, 0, none⟩) 3 3] 42)).alloc (.cells #[.int .i64 100, .int .i64 (-1), .int .i64 20] 3)) = V4 at jD jR jW jT jA jC jB ⊢
  have HRd : Hid (∀ k, k < 3 → ∃ (th : Int) (u : Value) (n : Nat) (W0 W1 : Nat → Int) (r : Int), V4.cell? ⟨bjT, k, none⟩ = some (.int .i64 th) ∧ V4.cell? ⟨bjR, k, none⟩ = some u ∧ V4.cell? ⟨bjW, k, none⟩ = some (.int .i64 r) ∧ PairsAt V4 u n W0 W1 ∧ gapR pl0 th n W0 W1 = r ∧ eGap pl0 th n W0 W1 = 0) := fun k hk => by
    obtain rfl | rfl | rfl : k = 0 ∨ k = 1 ∨ k = 2 := by omega
    · exact ⟨_, _, _, _, _, _, jT.cell 0 rfl, jR.cell 0 rfl, jW.cell 0 rfl, pairs_c2 jA, kn_gap1⟩
    · exact ⟨_, _, _, _, _, _, jT.cell 1 rfl, jR.cell 1 rfl, jW.cell 1 rfl, pairs_c1 jC, kn_gap2⟩
    · exact ⟨_, _, _, _, _, _, jT.cell 2 rfl, jR.cell 2 rfl, jW.cell 2 rfl, pairs_c3 jD, kn_gap3⟩
  have HB := Lib.hid jB
  have HF := Below.refl V4.heap.size V4
  clear jT jA jC jD jR jW jB
  go_wp2_with fail
  go_loopw [4] (fun i wr => ∃ k : Nat, k ≤ 3 ∧ i = .int .i64 k ∧ Below V4.heap.size V4 wr) (fun i _ => 3 - (intOf i).toNat)
  case atStart => exact ⟨0, by omega, rfl, HF⟩
  case round =>
    clear HF
    obtain ⟨k, hk, rfl, hB⟩ := hrel
    by_cases hlt2 : k < 3
    · obtain ⟨th, u, n, W0, W1, r, h1, h2, h3, h4, h5, h6⟩ := HRd.out k hlt2
      have hk3 : (k : Int) < 3 := by omega
      have H1 := Lib.hid h1
      have H2 := Lib.hid h2
      have H3 := Lib.hid h3
      have HG : Hid (∀ vS vC W, Below V4.heap.size V4 W → TabAt W vS pl0.S → TabAt W vC pl0.C → Calls Try.prog 42 #[.agg #[.int .i64 pl0.s0, .int .i64 pl0.s1, vS, vC, .int .i64 pl0.ne, .int .i64 pl0.ed, .int .i64 pl0.gr, .int .i64 pl0.lo, .int .i64 pl0.hi, .int .i64 pl0.sh, .int .i64 pl0.wi], .int .i64 th, u] W fun e w' => e = .returned (.tuple #[.int .i64 r, .int .i64 0]) ∧ Below W.heap.size W w') := fun vS vC W hW a1 a2 => by
        have q := gap_any pl0 vS vC u th n W0 W1 W a1 a2 (h4.later hW)
        rw [h5, h6] at q
        exact q
      clear h1 h2 h3 h4 h5 h6 HRd
      go_upto_region 5 with fail
      refine wp_region_held_drew (S := (fun v => Below V4.heap.size V4 v)) (by kernel_rfl) ?_ (fun hH => ?_)
      · (try dsimp only); (exact hB.drew)
      refine tkY 1 (some 27) ?_ ?_ ?_
      rotate_left
      · intro w _; go_simp; (try with_reducible rfl)
      (try simp only [cq])
      refine tkY 2 (some 28) ?_ ?_ ?_
      rotate_left
      · intro w _; go_simp; (try with_reducible rfl)
      (try simp only [cq])
      refine tkY 3 (some 29) ?_ ?_ ?_
      rotate_left
      · intro w hS0; (try dsimp only at hS0); have t0 := cell_later hS0 H1.out; have t1 := cell_later hS0 H2.out; have z0 := World.block_lt_of_cell? _ _ t0; have z1 := World.block_lt_of_cell? _ _ t1;go_simp; (try with_reducible rfl)
      (try simp only [cq])
      refine tkY 4 (some 30) ?_ ?_ ?_
      rotate_left
      · intro w hS0; (try dsimp only at hS0); have t0 := cell_later hS0 H1.out; have t1 := cell_later hS0 H2.out; have z0 := World.block_lt_of_cell? _ _ t0; have z1 := World.block_lt_of_cell? _ _ t1;go_simp; (try with_reducible rfl)
      (try simp only [cq])
      refine tkY 5 (some 31) ?_ ?_ ?_
      rotate_left
      · intro w _; go_simp; (try with_reducible rfl)
      (try simp only [cq])
      refine tkY 6 (some 32) ?_ ?_ ?_
      rotate_left
      · intro w _; go_simp; (try with_reducible rfl)
      (try simp only [cq])
      refine tkY 7 (some 33) ?_ ?_ ?_
      rotate_left
      · intro w hS0; (try dsimp only at hS0); have t0 := cell_later hS0 H1.out; have t1 := cell_later hS0 H2.out; have z0 := World.block_lt_of_cell? _ _ t0; have z1 := World.block_lt_of_cell? _ _ t1;go_simp; (try with_reducible rfl)
      (try simp only [cq])
      refine tkY 8 (some 34) ?_ ?_ ?_
      rotate_left
      · intro w hS0; (try dsimp only at hS0); have t0 := cell_later hS0 H1.out; have t1 := cell_later hS0 H2.out; have z0 := World.block_lt_of_cell? _ _ t0; have z1 := World.block_lt_of_cell? _ _ t1;go_simp; (try with_reducible rfl)
      (try simp only [cq])
      refine wpAnyH_ready (rs := [0]) (by kernel_rfl) (by simp) ?_
      refine arc1 (some 26) fun K hK => ?_
      go_simp
      (refine (kplate_any _).mono ?_; rintro e w' ⟨vS, vC, rfl, hS9, hC9, hb⟩; have HTS := Lib.hid hS9; have HTC := Lib.hid hC9; clear hS9 hC9)
      refine hK.out _ _ ?_ ?_
      · (exact bwS hH (Nat.le_refl _) hb)
      (try clear hH); (try clear hb)
      intro hH
      clear hK K
      (try simp only [cq])
      refine wpAnyH_ready (rs := [9]) (by kernel_rfl) (by simp) ?_
      refine arc1 (some 35) fun K hK => ?_
      go_simp
      (refine (HG.out _ _ _ hH HTS.out HTC.out).mono ?_; rintro e w' ⟨rfl, hb⟩)
      refine hK.out _ _ ?_ ?_
      · (exact bwS hH (Nat.le_refl _) hb)
      (try clear hH); (try clear hb)
      intro hH
      clear hK K
      (try simp only [cq])
      refine tkY 10 (some 25) ?_ ?_ ?_
      rotate_left
      · intro w _; go_simp; (try with_reducible rfl)
      (try simp only [cq])
      refine tkY 11 (some 36) ?_ ?_ ?_
      rotate_left
      · intro w _; go_simp; (try with_reducible rfl)
      (try simp only [cq])
      refine tkY 12 (some 37) ?_ ?_ ?_
      rotate_left
      · intro w _; go_simp; (try with_reducible rfl)
      (try simp only [cq])
      refine tkY 13 (some 5) ?_ ?_ ?_
      rotate_left
      · intro w _; go_simp; (try with_reducible rfl)
      (try simp only [cq])
      refine tkY 14 (some 6) ?_ ?_ ?_
      rotate_left
      · intro w _; go_simp; (try with_reducible rfl)
      (try simp only [cq])
      refine wpAnyH_done (by kernel_rfl) ?_ _
      (try dsimp only [Act.put])
      (try simp only [cq])
      clear hB HG
      have hB := hH
      clear hH
      have t2 := cell_later hB H3.out
      have z2 := World.block_lt_of_cell? _ _ t2
      have e4 : (r != r) = false := by simp
      go_wp2
      go_roundw
      case rel => exact ⟨k + 1, by omega, by go_num, hB⟩
      case measure => simp [intOf]; omega
    · have jB := bwS HB.out (by have := HB.out.size; omega) hB
      go_wp2
      go_ret
      exact ⟨rfl, jB⟩
theorem pairs_congr {W : World} {v : Value} {n : Nat} {A B A' B' : Nat → Int} (h : PairsAt W v n A B) (e : ∀ i, i < n → A i = A' i ∧ B i = B' i) : PairsAt W v n A' B' := by
  obtain ⟨a, c, hv, h1, h2, h3⟩ := h
  refine ⟨a, c, hv, h1, h2, fun h0 => ?_⟩
  obtain ⟨b, o, ha, hc⟩ := h3 h0
  exact ⟨b, o, ha, fun i hi => by rw [← (e i hi).1, ← (e i hi).2]; exact hc i hi⟩
def F2 (a b : Int) : Nat → Int := fun i => if i = 0 then a else b
theorem pairs_2 {W : World} {b : Nat} {t : TypeId} {x y z u : Int} (h : Blk W b #[.int .i64 x, .int .i64 y, .int .i64 z, .int .i64 u] t) : PairsAt W (.slice (some ⟨b, 0, none⟩) 2 2) 2 (F2 x z) (F2 y u) := by
  refine ⟨_, 2, rfl, by decide, by decide, fun _ => ⟨b, 0, rfl, fun i hi => ?_⟩⟩
  obtain rfl | rfl : i = 0 ∨ i = 1 := by omega
  · exact ⟨h.cell 0 rfl, h.cell 1 rfl⟩
  · exact ⟨h.cell 2 rfl, h.cell 3 rfl⟩
theorem kn_wav {d0 d1 sh : Int} (h : 0 ≤ d0 ∧ d0 ≤ d1 ∧ d1 ≤ 10000) (h2 : 0 ≤ sh ∧ sh ≤ 100000) : eWav pl0 d0 d1 sh = 0 := orE_ok (ePl_ok pl0_ok) (orE_ok (eS_ok h.1 h.2.1 h.2.2) (eN_ok h2.1 h2.2))
theorem kn_speeds {d0 d1 sh : Int} {a b : Nat} (h : 0 ≤ d0 ∧ d0 ≤ d1 ∧ d1 ≤ 10000) (h2 : 0 ≤ sh ∧ sh ≤ 100000) (hab : a + 1 < b) (hb : b ≤ 1000) (hf : ∀ v, v < 1001 → spdF pl0 d0 d1 sh v = (decide (v ≤ a) || decide (b ≤ v))) (vS vC : Value) (w : World) (hS : TabAt w vS pl0.S) (hC : TabAt w vC pl0.C) :
    Calls Try.prog 46 #[.agg #[.int .i64 pl0.s0, .int .i64 pl0.s1, vS, vC, .int .i64 pl0.ne, .int .i64 pl0.ed, .int .i64 pl0.gr, .int .i64 pl0.lo, .int .i64 pl0.hi, .int .i64 pl0.sh, .int .i64 pl0.wi], .agg #[.int .i64 d0, .int .i64 d1], .int .i64 sh] w fun e w' => ∃ u, e = .returned (.tuple #[u, .int .i64 0]) ∧ PairsAt w' u 2 (F2 0 (b : Int)) (F2 (a : Int) 1000) ∧ Below w.heap.size w w' := by
  obtain ⟨A, B, hs, a0, b0, a1, b1⟩ := spd_runs (kn_wav h h2) hab hb hf
  have q := speeds_any pl0 vS vC d0 d1 sh w hS hC
  rw [kn_wav h h2, hs] at q
  refine q.mono ?_
  rintro e w' ⟨u, rfl, hu, hb⟩
  refine ⟨u, rfl, pairs_congr hu (fun i hi => ?_), hb⟩
  have hi2 : i < 2 := hi
  obtain rfl | rfl : i = 0 ∨ i = 1 := by omega
  · exact ⟨a0, b0⟩
  · exact ⟨a1, b1⟩

set_option maxRecDepth 100000 in
set_option maxHeartbeats 8000000 in
theorem kspeeds_any (w : World) : Calls Try.prog 53 #[] w fun e w' => e = .returned (.bool true) ∧ Below w.heap.size w w' := by
  have jB := Below.refl w.heap.size w
  go_enter Try.func53, Try.ntmps53
  go_upto_region 2 with fail
  have jT := Blk.new w #[.int .i64 56, .int .i64 55, .int .i64 85] 3
  replace jB := bwA jB (Nat.le_refl _) (.cells #[.int .i64 56, .int .i64 55, .int .i64 85] 3)
  have jW := Blk.new1 w (.cells #[.int .i64 56, .int .i64 55, .int .i64 85] 3) #[.int .i64 2, .int .i64 1, .int .i64 1] 3
  have jT := jT.alloc (.cells #[.int .i64 2, .int .i64 1, .int .i64 1] 3)
  replace jB := bwA jB (Nat.le_refl _) (.cells #[.int .i64 2, .int .i64 1, .int .i64 1] 3)
  obtain ⟨bjT, hbjT⟩ : ∃ b, w.heap.size = b := ⟨_, rfl⟩
  (try rw [hbjT] at jT)
  (try rw [hbjT] at jW)
  (try rw [hbjT])
  clear hbjT
  obtain ⟨bjW, hbjW⟩ : ∃ b, bjT + 1 = b := ⟨_, rfl⟩
  (try rw [hbjW] at jT)
  (try rw [hbjW] at jW)
  (try rw [hbjW])
  clear hbjW
  generalize ((w.alloc (.cells #[.int .i64 56, .int .i64 55, .int .i64 85] 3)).alloc (.cells #[.int .i64 2, .int .i64 1, .int .i64 1] 3)) = V1 at jT jW  jB ⊢
  have HRd : Hid (∀ k, k < 3 → ∃ (v r : Int), V1.cell? ⟨bjT, k, none⟩ = some (.int .i64 v) ∧ V1.cell? ⟨bjW, k, none⟩ = some (.int .i64 r) ∧ eSpd pl0 50 50 100 v = 0 ∧ calmV pl0 50 50 100 v = r) := fun k hk => by
    obtain rfl | rfl | rfl : k = 0 ∨ k = 1 ∨ k = 2 := by omega
    · exact ⟨_, _, jT.cell 0 rfl, jW.cell 0 rfl, orE_ok (kn_wav (by decide) (by decide)) (by decide), by decide⟩
    · exact ⟨_, _, jT.cell 1 rfl, jW.cell 1 rfl, orE_ok (kn_wav (by decide) (by decide)) (by decide), by decide⟩
    · exact ⟨_, _, jT.cell 2 rfl, jW.cell 2 rfl, orE_ok (kn_wav (by decide) (by decide)) (by decide), by decide⟩
  have HB := Lib.hid jB
  have HF := Below.refl V1.heap.size V1
  clear jT jW jB
  go_wp2_with fail
  go_loopw [3] (fun i wr => ∃ k : Nat, k ≤ 3 ∧ i = .int .i64 k ∧ Below V1.heap.size V1 wr) (fun i _ => 3 - (intOf i).toNat)
  case atStart => exact ⟨0, by omega, rfl, HF⟩
  case round =>
    clear HF
    obtain ⟨k, hk, rfl, hB⟩ := hrel
    by_cases hlt2 : k < 3
    · obtain ⟨v, r, h1, h2, h3, h4⟩ := HRd.out k hlt2
      have hk3 : (k : Int) < 3 := by omega
      have H1 := Lib.hid h1
      have H2 := Lib.hid h2
      have HG : Hid (∀ vS vC W, TabAt W vS pl0.S → TabAt W vC pl0.C → Calls Try.prog 44 #[.agg #[.int .i64 pl0.s0, .int .i64 pl0.s1, vS, vC, .int .i64 pl0.ne, .int .i64 pl0.ed, .int .i64 pl0.gr, .int .i64 pl0.lo, .int .i64 pl0.hi, .int .i64 pl0.sh, .int .i64 pl0.wi], .agg #[.int .i64 50, .int .i64 50], .int .i64 100, .int .i64 v] W fun e w' => e = .returned (.tuple #[.int .i64 r, .int .i64 0]) ∧ Below W.heap.size W w') := fun vS vC W a1 a2 => by
        refine (speed_any pl0 vS vC 50 50 100 v W a1 a2).mono ?_
        rintro e w' ⟨q, rfl, q1, _, hb⟩
        rw [q1 h3, h3, h4]
        exact ⟨rfl, hb⟩
      clear h1 h2 h3 h4 HRd
      go_upto_region 5 with fail
      refine wp_region_held_drew (S := (fun v => Below V1.heap.size V1 v)) (by kernel_rfl) ?_ (fun hH => ?_)
      · (try dsimp only); (exact hB.drew)
      refine tkY 2 (some 23) ?_ ?_ ?_
      rotate_left
      · intro w _; go_simp; (try with_reducible rfl)
      (try simp only [cq])
      refine tkY 3 (some 24) ?_ ?_ ?_
      rotate_left
      · intro w _; go_simp; (try with_reducible rfl)
      (try simp only [cq])
      refine tkY 4 (some 25) ?_ ?_ ?_
      rotate_left
      · intro w hS0; (try dsimp only at hS0); have t0 := cell_later hS0 H1.out; have z0 := World.block_lt_of_cell? _ _ t0;go_simp; (try with_reducible rfl)
      (try simp only [cq])
      refine tkY 5 (some 26) ?_ ?_ ?_
      rotate_left
      · intro w hS0; (try dsimp only at hS0); have t0 := cell_later hS0 H1.out; have z0 := World.block_lt_of_cell? _ _ t0;go_simp; (try with_reducible rfl)
      (try simp only [cq])
      refine wpAnyH_ready (rs := [0]) (by kernel_rfl) (by simp) ?_
      refine arc1 (some 21) fun K hK => ?_
      go_simp
      (refine (kplate_any _).mono ?_; rintro e w' ⟨vS, vC, rfl, hS9, hC9, hb⟩; have HTS := Lib.hid hS9; have HTC := Lib.hid hC9; clear hS9 hC9)
      refine hK.out _ _ ?_ ?_
      · (exact bwS hH (Nat.le_refl _) hb)
      (try clear hH); (try clear hb)
      intro hH
      clear hK K
      (try simp only [cq])
      refine wpAnyH_ready (rs := [1]) (by kernel_rfl) (by simp) ?_
      refine arc1 (some 22) fun K hK => ?_
      go_simp
      (refine (kone_any _ _).mono ?_; rintro e w' ⟨rfl, hb⟩; replace HTS := Lib.hid (PairsAt.later HTS.out hb); replace HTC := Lib.hid (PairsAt.later HTC.out hb))
      refine hK.out _ _ ?_ ?_
      · (exact bwS hH (Nat.le_refl _) hb)
      (try clear hH); (try clear hb)
      intro hH
      clear hK K
      (try simp only [cq])
      refine wpAnyH_ready (rs := [6]) (by kernel_rfl) (by simp) ?_
      refine arc1 (some 27) fun K hK => ?_
      go_simp
      (refine (HG.out _ _ _ HTS.out HTC.out).mono ?_; rintro e w' ⟨rfl, hb⟩)
      refine hK.out _ _ ?_ ?_
      · (exact bwS hH (Nat.le_refl _) hb)
      (try clear hH); (try clear hb)
      intro hH
      clear hK K
      (try simp only [cq])
      refine tkY 7 (some 20) ?_ ?_ ?_
      rotate_left
      · intro w _; go_simp; (try with_reducible rfl)
      (try simp only [cq])
      refine tkY 8 (some 28) ?_ ?_ ?_
      rotate_left
      · intro w _; go_simp; (try with_reducible rfl)
      (try simp only [cq])
      refine tkY 9 (some 29) ?_ ?_ ?_
      rotate_left
      · intro w _; go_simp; (try with_reducible rfl)
      (try simp only [cq])
      refine tkY 10 (some 4) ?_ ?_ ?_
      rotate_left
      · intro w _; go_simp; (try with_reducible rfl)
      (try simp only [cq])
      refine tkY 11 (some 5) ?_ ?_ ?_
      rotate_left
      · intro w _; go_simp; (try with_reducible rfl)
      (try simp only [cq])
      refine wpAnyH_done (by kernel_rfl) ?_ _
      (try dsimp only [Act.put])
      (try simp only [cq])
      clear hB HG
      have hB := hH
      clear hH
      have t2 := cell_later hB H2.out
      have z2 := World.block_lt_of_cell? _ _ t2
      have e4 : (r != r) = false := by simp
      go_wp2
      go_roundw
      case rel => exact ⟨k + 1, by omega, by go_num, hB⟩
      case measure => simp [intOf]; omega
    · have jB := bwS HB.out (by have := HB.out.size; omega) hB
      clear hB HRd HB
      go_wp2_with fail
      refine (kone_any _ _).mono ?_
      rintro e y1 ⟨rfl, hb⟩
      replace jB := bwS jB (Nat.le_refl _) hb
      clear hb
      go_wp2_with fail
      refine (kspan_any _ _ _).mono ?_
      rintro e y2 ⟨rfl, hb⟩
      replace jB := bwS jB (Nat.le_refl _) hb
      clear hb
      go_wp2_with fail
      refine (kone_any _ _).mono ?_
      rintro e y3 ⟨rfl, hb⟩
      replace jB := bwS jB (Nat.le_refl _) hb
      clear hb
      go_upto_region 9 with fail
      have jE := Blk.new y3 #[.int .i64 50, .int .i64 50, .int .i64 40, .int .i64 50, .int .i64 50, .int .i64 50] 23
      replace jB := bwA jB (Nat.le_refl _) (.cells #[.int .i64 50, .int .i64 50, .int .i64 40, .int .i64 50, .int .i64 50, .int .i64 50] 23)
      have jH := Blk.new1 y3 (.cells #[.int .i64 50, .int .i64 50, .int .i64 40, .int .i64 50, .int .i64 50, .int .i64 50] 23) #[.int .i64 100, .int .i64 100, .int .i64 49] 3
      have jE := jE.alloc (.cells #[.int .i64 100, .int .i64 100, .int .i64 49] 3)
      replace jB := bwA jB (Nat.le_refl _) (.cells #[.int .i64 100, .int .i64 100, .int .i64 49] 3)
      obtain ⟨bjE, hbjE⟩ : ∃ b, y3.heap.size = b := ⟨_, rfl⟩
      (try rw [hbjE] at jE)
      (try rw [hbjE] at jH)
      (try rw [hbjE])
      clear hbjE
      obtain ⟨bjH, hbjH⟩ : ∃ b, bjE + 1 = b := ⟨_, rfl⟩
      (try rw [hbjH] at jE)
      (try rw [hbjH] at jH)
      (try rw [hbjH])
      clear hbjH
      generalize ((y3.alloc (.cells #[.int .i64 50, .int .i64 50, .int .i64 40, .int .i64 50, .int .i64 50, .int .i64 50] 23)).alloc (.cells #[.int .i64 100, .int .i64 100, .int .i64 49] 3)) = V2 at jE jH  jB ⊢
      go_wp2_with fail
      refine (kspan_any _ _ _).mono ?_
      rintro e y4 ⟨rfl, hb⟩
      replace jE := jE.call hb
      replace jH := jH.call hb
      replace jB := bwS jB (Nat.le_refl _) hb
      clear hb
      go_wp2_with fail
      refine (kspan_any _ _ _).mono ?_
      rintro e y5 ⟨rfl, hb⟩
      replace jE := jE.call hb
      replace jH := jH.call hb
      replace jB := bwS jB (Nat.le_refl _) hb
      clear hb
      go_wp2_with fail
      have jP := Blk.new y5 #[.int .i64 0, .int .i64 55, .int .i64 85, .int .i64 1000] 23
      replace jE := jE.alloc (.cells #[.int .i64 0, .int .i64 55, .int .i64 85, .int .i64 1000] 23)
      replace jH := jH.alloc (.cells #[.int .i64 0, .int .i64 55, .int .i64 85, .int .i64 1000] 23)
      replace jB := bwA jB (Nat.le_refl _) (.cells #[.int .i64 0, .int .i64 55, .int .i64 85, .int .i64 1000] 23)
      obtain ⟨bjP, hbjP⟩ : ∃ b, y5.heap.size = b := ⟨_, rfl⟩
      (try rw [hbjP] at jP)
      (try rw [hbjP])
      clear hbjP
      generalize (y5.alloc (.cells #[.int .i64 0, .int .i64 55, .int .i64 85, .int .i64 1000] 23)) = V3 at jP jE jH jB ⊢
      refine (kspan_any _ _ _).mono ?_
      rintro e y6 ⟨rfl, hb⟩
      replace jE := jE.call hb
      replace jH := jH.call hb
      replace jP := jP.call hb
      replace jB := bwS jB (Nat.le_refl _) hb
      clear hb
      go_wp2_with fail
      refine (kspan_any _ _ _).mono ?_
      rintro e y7 ⟨rfl, hb⟩
      replace jE := jE.call hb
      replace jH := jH.call hb
      replace jP := jP.call hb
      replace jB := bwS jB (Nat.le_refl _) hb
      clear hb
      go_wp2_with fail
      have jQ := Blk.new y7 #[.int .i64 0, .int .i64 50, .int .i64 85, .int .i64 1000] 23
      replace jE := jE.alloc (.cells #[.int .i64 0, .int .i64 50, .int .i64 85, .int .i64 1000] 23)
      replace jH := jH.alloc (.cells #[.int .i64 0, .int .i64 50, .int .i64 85, .int .i64 1000] 23)
      replace jP := jP.alloc (.cells #[.int .i64 0, .int .i64 50, .int .i64 85, .int .i64 1000] 23)
      replace jB := bwA jB (Nat.le_refl _) (.cells #[.int .i64 0, .int .i64 50, .int .i64 85, .int .i64 1000] 23)
      obtain ⟨bjQ, hbjQ⟩ : ∃ b, y7.heap.size = b := ⟨_, rfl⟩
      (try rw [hbjQ] at jQ)
      (try rw [hbjQ])
      clear hbjQ
      generalize (y7.alloc (.cells #[.int .i64 0, .int .i64 50, .int .i64 85, .int .i64 1000] 23)) = V4 at jQ jE jH jP jB ⊢
      refine (kspan_any _ _ _).mono ?_
      rintro e y8 ⟨rfl, hb⟩
      replace jE := jE.call hb
      replace jH := jH.call hb
      replace jP := jP.call hb
      replace jQ := jQ.call hb
      replace jB := bwS jB (Nat.le_refl _) hb
      clear hb
      go_wp2_with fail
      refine (kspan_any _ _ _).mono ?_
      rintro e y9 ⟨rfl, hb⟩
      replace jE := jE.call hb
      replace jH := jH.call hb
      replace jP := jP.call hb
      replace jQ := jQ.call hb
      replace jB := bwS jB (Nat.le_refl _) hb
      clear hb
      go_upto_region 10 with fail
      have jX := Blk.new y9 #[.int .i64 0, .int .i64 48, .int .i64 94, .int .i64 1000] 23
      replace jE := jE.alloc (.cells #[.int .i64 0, .int .i64 48, .int .i64 94, .int .i64 1000] 23)
      replace jH := jH.alloc (.cells #[.int .i64 0, .int .i64 48, .int .i64 94, .int .i64 1000] 23)
      replace jP := jP.alloc (.cells #[.int .i64 0, .int .i64 48, .int .i64 94, .int .i64 1000] 23)
      replace jQ := jQ.alloc (.cells #[.int .i64 0, .int .i64 48, .int .i64 94, .int .i64 1000] 23)
      replace jB := bwA jB (Nat.le_refl _) (.cells #[.int .i64 0, .int .i64 48, .int .i64 94, .int .i64 1000] 23)
      have jR := Blk.new1 y9 (.cells #[.int .i64 0, .int .i64 48, .int .i64 94, .int .i64 1000] 23) #[.slice (some ⟨bjP, 0, none⟩) 2 2, .slice (some ⟨bjQ, 0, none⟩) 2 2, .slice (some ⟨y9.heap.size, 0, none⟩) 2 2] 42
      have jX := jX.alloc (.cells #[.slice (some ⟨bjP, 0, none⟩) 2 2, .slice (some ⟨bjQ, 0, none⟩) 2 2, .slice (some ⟨y9.heap.size, 0, none⟩) 2 2] 42)
      replace jE := jE.alloc (.cells #[.slice (some ⟨bjP, 0, none⟩) 2 2, .slice (some ⟨bjQ, 0, none⟩) 2 2, .slice (some ⟨y9.heap.size, 0, none⟩) 2 2] 42)
      replace jH := jH.alloc (.cells #[.slice (some ⟨bjP, 0, none⟩) 2 2, .slice (some ⟨bjQ, 0, none⟩) 2 2, .slice (some ⟨y9.heap.size, 0, none⟩) 2 2] 42)
      replace jP := jP.alloc (.cells #[.slice (some ⟨bjP, 0, none⟩) 2 2, .slice (some ⟨bjQ, 0, none⟩) 2 2, .slice (some ⟨y9.heap.size, 0, none⟩) 2 2] 42)
      replace jQ := jQ.alloc (.cells #[.slice (some ⟨bjP, 0, none⟩) 2 2, .slice (some ⟨bjQ, 0, none⟩) 2 2, .slice (some ⟨y9.heap.size, 0, none⟩) 2 2] 42)
      replace jB := bwA jB (Nat.le_refl _) (.cells #[.slice (some ⟨bjP, 0, none⟩) 2 2, .slice (some ⟨bjQ, 0, none⟩) 2 2, .slice (some ⟨y9.heap.size, 0, none⟩) 2 2] 42)
      obtain ⟨bjX, hbjX⟩ : ∃ b, y9.heap.size = b := ⟨_, rfl⟩
      (try rw [hbjX] at jX)
      (try rw [hbjX] at jR)
      (try rw [hbjX] at jE)
      (try rw [hbjX] at jH)
      (try rw [hbjX] at jP)
      (try rw [hbjX] at jQ)
      (try rw [hbjX] at jB)
      (try rw [hbjX])
      clear hbjX
      obtain ⟨bjR, hbjR⟩ : ∃ b, bjX + 1 = b := ⟨_, rfl⟩
      (try rw [hbjR] at jX)
      (try rw [hbjR] at jR)
      (try rw [hbjR] at jE)
      (try rw [hbjR] at jH)
      (try rw [hbjR] at jP)
      (try rw [hbjR] at jQ)
      (try rw [hbjR] at jB)
      (try rw [hbjR])
      clear hbjR
      generalize ((y9.alloc (.cells #[.int .i64 0, .int .i64 48, .int .i64 94, .int .i64 1000] 23)).alloc (.cells #[.slice (some ⟨bjP, 0, none⟩) 2 2, .slice (some ⟨bjQ, 0, none⟩) 2 2, .slice (some ⟨bjX, 0, none⟩) 2 2] 42)) = V5 at jX jR jE jH jP jQ jB ⊢
      have HRe : Hid (∀ k, k < 3 → ∃ (d0 d1 sh : Int) (u : Value) (a b : Nat), V5.cell? ⟨bjE, k * 2, none⟩ = some (.int .i64 d0) ∧ V5.cell? ⟨bjE, k * 2 + 1, none⟩ = some (.int .i64 d1) ∧ V5.cell? ⟨bjH, k, none⟩ = some (.int .i64 sh) ∧ V5.cell? ⟨bjR, k, none⟩ = some u ∧ PairsAt V5 u 2 (F2 0 (b : Int)) (F2 (a : Int) 1000) ∧
          (∀ vS vC W, TabAt W vS pl0.S → TabAt W vC pl0.C → Calls Try.prog 46 #[.agg #[.int .i64 pl0.s0, .int .i64 pl0.s1, vS, vC, .int .i64 pl0.ne, .int .i64 pl0.ed, .int .i64 pl0.gr, .int .i64 pl0.lo, .int .i64 pl0.hi, .int .i64 pl0.sh, .int .i64 pl0.wi], .agg #[.int .i64 d0, .int .i64 d1], .int .i64 sh] W fun e w' => ∃ u, e = .returned (.tuple #[u, .int .i64 0]) ∧ PairsAt w' u 2 (F2 0 (b : Int)) (F2 (a : Int) 1000) ∧ Below W.heap.size W w')) := fun k hk => by
        obtain rfl | rfl | rfl : k = 0 ∨ k = 1 ∨ k = 2 := by omega
        · exact ⟨_, _, _, _, 55, 85, jE.cell 0 rfl, jE.cell 1 rfl, jH.cell 0 rfl, jR.cell 0 rfl, pairs_2 jP, fun vS vC W a1 a2 => kn_speeds (by decide) (by decide) (by decide) (by decide) kn_spd1 vS vC W a1 a2⟩
        · exact ⟨_, _, _, _, 50, 85, jE.cell 2 rfl, jE.cell 3 rfl, jH.cell 1 rfl, jR.cell 1 rfl, pairs_2 jQ, fun vS vC W a1 a2 => kn_speeds (by decide) (by decide) (by decide) (by decide) kn_spd2 vS vC W a1 a2⟩
        · exact ⟨_, _, _, _, 48, 94, jE.cell 4 rfl, jE.cell 5 rfl, jH.cell 2 rfl, jR.cell 2 rfl, pairs_2 jX, fun vS vC W a1 a2 => kn_speeds (by decide) (by decide) (by decide) (by decide) kn_spd3 vS vC W a1 a2⟩
      have HB := Lib.hid jB
      have HF := Below.refl V5.heap.size V5
      clear jE jH jP jQ jX jR jB
      go_wp2_with fail
      go_loopw [9] (fun i wr => ∃ k : Nat, k ≤ 3 ∧ i = .int .i64 k ∧ Below V5.heap.size V5 wr) (fun i _ => 3 - (intOf i).toNat)
      case atStart => exact ⟨0, by omega, rfl, HF⟩
      case round =>
        clear HF
        obtain ⟨k, hk, rfl, hB⟩ := hrel
        by_cases hlt3 : k < 3
        · obtain ⟨d0, d1, sh, u, a, b, h1, h2, h3, h4, h5, h6⟩ := HRe.out k hlt3
          have hk3 : (k : Int) < 3 := by omega
          have H1 := Lib.hid h1
          have H2 := Lib.hid h2
          have H3 := Lib.hid h3
          have H4 := Lib.hid h4
          have H5 := Lib.hid h5
          have HG := Lib.hid h6
          clear h1 h2 h3 h4 h5 h6 HRe
          go_upto_region 13 with fail
          refine wp_region_held_drew (S := (fun v => Below V5.heap.size V5 v)) (by kernel_rfl) ?_ (fun hH => ?_)
          · (try dsimp only); (exact hB.drew)
          refine tkY 1 (some 63) ?_ ?_ ?_
          rotate_left
          · intro w _; go_simp; (try with_reducible rfl)
          (try simp only [cq])
          refine tkY 2 (some 64) ?_ ?_ ?_
          rotate_left
          · intro w _; go_simp; (try with_reducible rfl)
          (try simp only [cq])
          refine tkY 3 (some 65) ?_ ?_ ?_
          rotate_left
          · intro w hS0; (try dsimp only at hS0); have t0 := cell_later hS0 H1.out; have t1 := cell_later hS0 H2.out; have t3 := cell_later hS0 H3.out; have z0 := World.block_lt_of_cell? _ _ t0; have z3 := World.block_lt_of_cell? _ _ t3;go_simp; (try with_reducible rfl)
          (try simp only [cq])
          refine tkY 4 (some 66) ?_ ?_ ?_
          rotate_left
          · intro w hS0; (try dsimp only at hS0); have t0 := cell_later hS0 H1.out; have t1 := cell_later hS0 H2.out; have t3 := cell_later hS0 H3.out; have z0 := World.block_lt_of_cell? _ _ t0; have z3 := World.block_lt_of_cell? _ _ t3;go_simp; (try with_reducible rfl)
          (try simp only [cq])
          refine tkY 5 (some 67) ?_ ?_ ?_
          rotate_left
          · intro w _; go_simp; (try with_reducible rfl)
          (try simp only [cq])
          refine tkY 6 (some 68) ?_ ?_ ?_
          rotate_left
          · intro w _; go_simp; (try with_reducible rfl)
          (try simp only [cq])
          refine tkY 7 (some 69) ?_ ?_ ?_
          rotate_left
          · intro w hS0; (try dsimp only at hS0); have t0 := cell_later hS0 H1.out; have t1 := cell_later hS0 H2.out; have t3 := cell_later hS0 H3.out; have z0 := World.block_lt_of_cell? _ _ t0; have z3 := World.block_lt_of_cell? _ _ t3;go_simp; (try with_reducible rfl)
          (try simp only [cq])
          refine tkY 8 (some 70) ?_ ?_ ?_
          rotate_left
          · intro w hS0; (try dsimp only at hS0); have t0 := cell_later hS0 H1.out; have t1 := cell_later hS0 H2.out; have t3 := cell_later hS0 H3.out; have z0 := World.block_lt_of_cell? _ _ t0; have z3 := World.block_lt_of_cell? _ _ t3;go_simp; (try with_reducible rfl)
          (try simp only [cq])
          refine wpAnyH_ready (rs := [0]) (by kernel_rfl) (by simp) ?_
          refine arc1 (some 62) fun K hK => ?_
          go_simp
          (refine (kplate_any _).mono ?_; rintro e w' ⟨vS, vC, rfl, hS9, hC9, hb⟩; have HTS := Lib.hid hS9; have HTC := Lib.hid hC9; clear hS9 hC9)
          refine hK.out _ _ ?_ ?_
          · (exact bwS hH (Nat.le_refl _) hb)
          (try clear hH); (try clear hb)
          intro hH
          clear hK K
          (try simp only [cq])
          refine wpAnyH_ready (rs := [9]) (by kernel_rfl) (by simp) ?_
          refine arc1 (some 71) fun K hK => ?_
          go_simp
          (refine (HG.out _ _ _ HTS.out HTC.out).mono ?_; rintro e w' ⟨uu, rfl, huu, hb⟩)
          refine hK.out _ _ ?_ ?_
          · (exact bwS hH (Nat.le_refl _) hb)
          (try clear hH); (try clear hb)
          intro hH
          clear hK K
          (try simp only [cq])
          refine tkY 10 (some 61) ?_ ?_ ?_
          rotate_left
          · intro w _; go_simp; (try with_reducible rfl)
          (try simp only [cq])
          refine tkY 11 (some 72) ?_ ?_ ?_
          rotate_left
          · intro w _; go_simp; (try with_reducible rfl)
          (try simp only [cq])
          refine tkY 12 (some 73) ?_ ?_ ?_
          rotate_left
          · intro w _; go_simp; (try with_reducible rfl)
          (try simp only [cq])
          refine tkY 13 (some 10) ?_ ?_ ?_
          rotate_left
          · intro w _; go_simp; (try with_reducible rfl)
          (try simp only [cq])
          refine tkY 14 (some 11) ?_ ?_ ?_
          rotate_left
          · intro w _; go_simp; (try with_reducible rfl)
          (try simp only [cq])
          refine wpAnyH_done (by kernel_rfl) ?_ _
          (try dsimp only [Act.put])
          (try simp only [cq])
          clear hB HG
          have hB := hH
          clear hH
          have HSm := Lib.hid (ksamespans_yes uu u 2 _ _ _ huu (H5.out.later hB))
          have t2 := cell_later hB H4.out
          have z2 := World.block_lt_of_cell? _ _ t2
          clear huu
          go_wp2_with fail
          clear t2 z2
          refine HSm.out.mono ?_
          rintro e w8 ⟨rfl, hb⟩
          replace hB := bwS hB (Nat.le_refl _) hb
          clear hb HSm
          go_wp2
          go_roundw
          case rel => exact ⟨k + 1, by omega, by go_num, hB⟩
          case measure => simp [intOf]; omega
        · have jB := bwS HB.out (by have := HB.out.size; omega) hB
          go_wp2
          go_ret
          exact ⟨rfl, jB⟩
end Go.Proofs.Ytkkljbbgaogifaa

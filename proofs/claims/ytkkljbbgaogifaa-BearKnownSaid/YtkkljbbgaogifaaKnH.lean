/-
  BearKnown's holds says yes.
-/
import Derived.Test.YtkkljbbgaogifaaTail
import Derived.Test.YtkkljbbgaogifaaKnG
import Derived.Test.YtkkljbbgaogifaaLane
import Derived.Test.YtkkljbbgaogifaaShr3
set_option linter.unusedVariables false
set_option linter.unusedSimpArgs false
namespace Go.Proofs.Ytkkljbbgaogifaa
open Go.RowKit

theorem blk_num {W : World} {b b' : Nat} {C : Array Value} {t : TypeId} (h : Blk W b C t) (e : b = b') : Blk W b' C t := e ▸ h
theorem ints_b1 {W : World} {b : Nat} {t : TypeId} {x : Int} (h : Blk W b #[.int .i64 x] t) : IntsAt W (.slice (some ⟨b, 0, none⟩) 1 1) 1 (fun _ => x) := by
  refine ⟨_, 1, rfl, by decide, by decide, fun _ => ⟨b, 0, rfl, fun i hi => ?_⟩⟩
  obtain rfl : i = 0 := by omega
  exact h.cell 0 rfl
theorem ints_b2 {W : World} {b : Nat} {t : TypeId} {x y : Int} (h : Blk W b #[.int .i64 x, .int .i64 y] t) : IntsAt W (.slice (some ⟨b, 0, none⟩) 2 2) 2 (F2 x y) := by
  refine ⟨_, 2, rfl, by decide, by decide, fun _ => ⟨b, 0, rfl, fun i hi => ?_⟩⟩
  obtain rfl | rfl : i = 0 ∨ i = 1 := by omega
  · exact h.cell 0 rfl
  · exact h.cell 1 rfl
theorem pairs_11 {W : World} {b : Nat} {t : TypeId} {x y : Int} (h : Blk W b #[.int .i64 x, .int .i64 y] t) : PairsAt W (.slice (some ⟨b, 0, none⟩) 1 1) 1 (fun _ => x) (fun _ => y) := by
  refine ⟨_, 1, rfl, by decide, by decide, fun _ => ⟨b, 0, rfl, fun i hi => ?_⟩⟩
  obtain rfl : i = 0 := by omega
  exact ⟨h.cell 0 rfl, h.cell 1 rfl⟩
theorem ints_k {W : World} {b k c : Nat} {x : Int} (hc : 1 ≤ c ∧ c ≤ 9223372036854775807) (h : W.cell? ⟨b, k, none⟩ = some (.int .i64 x)) : IntsAt W (.slice (some ⟨b, k, none⟩) 1 c) 1 (fun _ => x) := by
  refine ⟨_, c, rfl, hc.1, hc.2, fun _ => ⟨b, k, rfl, fun i hi => ?_⟩⟩
  obtain rfl : i = 0 := by omega
  exact h
theorem ints_congr {W : World} {v : Value} {n : Nat} {A A' : Nat → Int} (h : IntsAt W v n A) (e : ∀ i, i < n → A i = A' i) : IntsAt W v n A' := by
  obtain ⟨a, c, hv, h1, h2, h3⟩ := h
  refine ⟨a, c, hv, h1, h2, fun h0 => ?_⟩
  obtain ⟨b, o, ha, hc⟩ := h3 h0
  exact ⟨b, o, ha, fun i hi => by rw [← e i hi]; exact hc i hi⟩
theorem ld_ok {me a c : Int} {places : Nat} (h : 0 ≤ me ∧ me < 100 * (places : Int)) (h2 : 0 ≤ a ∧ a ≤ c ∧ c ≤ 200000) : Ld.Ok ⟨me, a, c, 0⟩ places :=
  ⟨h.1, h.2, h2.1, h2.2.1, h2.2.2, Int.le_refl _, by show (0 : Int) ≤ 10000; decide⟩
theorem kn_hold {n : Nat} {L : Nat → Ld} {X : Nat → Int} {nc : Nat} {C0 C1 : Nat → Int} (hn : n ≤ 30) (hL : ∀ i, i < n → (L i).Ok 1) (hnc : nc ≤ 50) (hc : ∀ i, i < nc → 0 ≤ C0 i ∧ C0 i ≤ C1 i ∧ C1 i ≤ 100000) (hX : ∀ i, i < n → verdV pl0 (fun _ => 500) (fun _ => 500) nc C0 C1 n L (L i) = X i) (vS vC vI vK vL : Value) (w : World) (hS : TabAt w vS pl0.S) (hC : TabAt w vC pl0.C) (hI : PairsAt w vI 1 (fun _ => 500) (fun _ => 500)) (hK : PairsAt w vK nc C0 C1) (hV : LoadsAt w vL n L) :
    Calls Try.prog 35 #[.agg #[.int .i64 pl0.s0, .int .i64 pl0.s1, vS, vC, .int .i64 pl0.ne, .int .i64 pl0.ed, .int .i64 pl0.gr, .int .i64 pl0.lo, .int .i64 pl0.hi, .int .i64 pl0.sh, .int .i64 pl0.wi], vI, vK, vL] w fun e w' => ∃ u, e = .returned (.tuple #[u, .int .i64 0]) ∧ IntsAt w' u n X ∧ Below w.heap.size w w' :=
  (holds_valid pl0_ok (by decide) (fun _ _ => by decide) hnc hc hn hL vS vC vI vK vL w hS hC hI hK hV).mono fun e w' ⟨u, h1, h2, h3⟩ => ⟨u, h1, ints_congr (ints_of_row h2) hX, h3⟩

theorem kn_lane (vS vC vI vK : Value) (w : World) (hS : TabAt w vS pl0.S) (hC : TabAt w vC pl0.C) (hI : PairsAt w vI 2 (F2 500 400) (F2 500 600)) (hK : PairsAt w vK 1 (fun _ => 150) (fun _ => 150)) :
    Calls Try.prog 39 #[.agg #[.int .i64 pl0.s0, .int .i64 pl0.s1, vS, vC, .int .i64 pl0.ne, .int .i64 pl0.ed, .int .i64 pl0.gr, .int .i64 pl0.lo, .int .i64 pl0.hi, .int .i64 pl0.sh, .int .i64 pl0.wi], vI, vK, .agg #[.int .i64 10000, .int .i64 10000]] w fun e w' => ∃ v, e = .returned (.tuple #[v, .int .i64 0]) ∧ IntsAt w' v 2 (F2 1 3) ∧ Below w.heap.size w w' :=
  (lane_valid pl0_ok (by decide) (fun i hi => by obtain rfl | rfl : i = 0 ∨ i = 1 := (by omega) <;> decide) (by decide) (fun _ _ => by decide) (by decide) vS vC vI vK w hS hC hI hK).mono fun e w' ⟨v, h1, h2, h3⟩ => ⟨v, h1, ints_congr (ints_of_row h2) (fun i hi => by obtain rfl | rfl : i = 0 ∨ i = 1 := (by omega) <;> decide +kernel), h3⟩

set_option maxRecDepth 100000 in
set_option maxHeartbeats 16000000 in
theorem kholds_any (w : World) : Calls Try.prog 51 #[] w fun e w' => e = .returned (.bool true) ∧ Below w.heap.size w w' := by
  have jB := Below.refl w.heap.size w
  go_enter Try.func51, Try.ntmps51
  go_wp2_with fail
  refine (kone_any _ _).mono ?_
  rintro e y1 ⟨rfl, hb⟩
  replace jB := bwS jB (Nat.le_refl _) hb
  clear hb
  go_wp2_with fail
  have jI0 := Blk.new y1 #[.int .i64 50] 3
  replace jB := bwA jB (Nat.le_refl _) (.cells #[.int .i64 50] 3)
  obtain ⟨bjI0, hbjI0⟩ : ∃ b, y1.heap.size = b := ⟨_, rfl⟩
  (try rw [hbjI0] at jI0)
  (try rw [hbjI0])
  clear hbjI0
  generalize (y1.alloc (.cells #[.int .i64 50] 3)) = V1 at jI0   jB ⊢
  refine (kloads_any 10000 10000 1 _ (fun _ => 50) (by decide) _ (ints_b1 jI0)).mono ?_
  rintro e y2 ⟨u0, rfl, hu0, hb⟩
  replace jI0 := jI0.call hb
  replace jB := bwS jB (Nat.le_refl _) hb
  clear hb
  obtain ⟨ka0, kc0, rfl, _, _, _⟩ := id hu0
  clear jI0
  go_wp2_with fail
  refine (kspan_any _ _ _).mono ?_
  rintro e y3 ⟨rfl, hb⟩
  replace hu0 := hu0.later hb
  replace jB := bwS jB (Nat.le_refl _) hb
  clear hb
  go_wp2_with fail
  have jI1 := Blk.new y3 #[.int .i64 50] 3
  replace hu0 := hu0.later ((Below.refl _ _).alloc (Nat.le_refl _) (.cells #[.int .i64 50] 3))
  replace jB := bwA jB (Nat.le_refl _) (.cells #[.int .i64 50] 3)
  obtain ⟨bjI1, hbjI1⟩ : ∃ b, y3.heap.size = b := ⟨_, rfl⟩
  (try rw [hbjI1] at jI1)
  (try rw [hbjI1])
  clear hbjI1
  generalize (y3.alloc (.cells #[.int .i64 50] 3)) = V2 at jI1  hu0 jB ⊢
  refine (kloads_any 10000 12500 1 _ (fun _ => 50) (by decide) _ (ints_b1 jI1)).mono ?_
  rintro e y4 ⟨u1, rfl, hu1, hb⟩
  replace jI1 := jI1.call hb
  replace hu0 := hu0.later hb
  replace jB := bwS jB (Nat.le_refl _) hb
  clear hb
  obtain ⟨ka1, kc1, rfl, _, _, _⟩ := id hu1
  clear jI1
  go_wp2_with fail
  refine (kspan_any _ _ _).mono ?_
  rintro e y5 ⟨rfl, hb⟩
  replace hu0 := hu0.later hb
  replace hu1 := hu1.later hb
  replace jB := bwS jB (Nat.le_refl _) hb
  clear hb
  go_wp2_with fail
  have jI2 := Blk.new y5 #[.int .i64 50] 3
  replace hu0 := hu0.later ((Below.refl _ _).alloc (Nat.le_refl _) (.cells #[.int .i64 50] 3))
  replace hu1 := hu1.later ((Below.refl _ _).alloc (Nat.le_refl _) (.cells #[.int .i64 50] 3))
  replace jB := bwA jB (Nat.le_refl _) (.cells #[.int .i64 50] 3)
  obtain ⟨bjI2, hbjI2⟩ : ∃ b, y5.heap.size = b := ⟨_, rfl⟩
  (try rw [hbjI2] at jI2)
  (try rw [hbjI2])
  clear hbjI2
  generalize (y5.alloc (.cells #[.int .i64 50] 3)) = V3 at jI2  hu0 hu1 jB ⊢
  refine (kloads_any 12501 12600 1 _ (fun _ => 50) (by decide) _ (ints_b1 jI2)).mono ?_
  rintro e y6 ⟨u2, rfl, hu2, hb⟩
  replace jI2 := jI2.call hb
  replace hu0 := hu0.later hb
  replace hu1 := hu1.later hb
  replace jB := bwS jB (Nat.le_refl _) hb
  clear hb
  obtain ⟨ka2, kc2, rfl, _, _, _⟩ := id hu2
  clear jI2
  go_wp2_with fail
  refine (kone_any _ _).mono ?_
  rintro e y7 ⟨rfl, hb⟩
  replace hu0 := hu0.later hb
  replace hu1 := hu1.later hb
  replace hu2 := hu2.later hb
  replace jB := bwS jB (Nat.le_refl _) hb
  clear hb
  go_wp2_with fail
  have jI3 := Blk.new y7 #[.int .i64 10, .int .i64 40] 3
  replace hu0 := hu0.later ((Below.refl _ _).alloc (Nat.le_refl _) (.cells #[.int .i64 10, .int .i64 40] 3))
  replace hu1 := hu1.later ((Below.refl _ _).alloc (Nat.le_refl _) (.cells #[.int .i64 10, .int .i64 40] 3))
  replace hu2 := hu2.later ((Below.refl _ _).alloc (Nat.le_refl _) (.cells #[.int .i64 10, .int .i64 40] 3))
  replace jB := bwA jB (Nat.le_refl _) (.cells #[.int .i64 10, .int .i64 40] 3)
  obtain ⟨bjI3, hbjI3⟩ : ∃ b, y7.heap.size = b := ⟨_, rfl⟩
  (try rw [hbjI3] at jI3)
  (try rw [hbjI3])
  clear hbjI3
  generalize (y7.alloc (.cells #[.int .i64 10, .int .i64 40] 3)) = V4 at jI3  hu0 hu1 hu2 jB ⊢
  refine (kloads_any 8000 8000 2 _ (F2 10 40) (by decide) _ (ints_b2 jI3)).mono ?_
  rintro e y8 ⟨u3, rfl, hu3, hb⟩
  replace jI3 := jI3.call hb
  replace hu0 := hu0.later hb
  replace hu1 := hu1.later hb
  replace hu2 := hu2.later hb
  replace jB := bwS jB (Nat.le_refl _) hb
  clear hb
  obtain ⟨ka3, kc3, rfl, _, _, _⟩ := id hu3
  clear jI3
  go_wp2_with fail
  refine (kone_any _ _).mono ?_
  rintro e y9 ⟨rfl, hb⟩
  replace hu0 := hu0.later hb
  replace hu1 := hu1.later hb
  replace hu2 := hu2.later hb
  replace hu3 := hu3.later hb
  replace jB := bwS jB (Nat.le_refl _) hb
  clear hb
  go_wp2_with fail
  have jI4 := Blk.new y9 #[.int .i64 10, .int .i64 99] 3
  replace hu0 := hu0.later ((Below.refl _ _).alloc (Nat.le_refl _) (.cells #[.int .i64 10, .int .i64 99] 3))
  replace hu1 := hu1.later ((Below.refl _ _).alloc (Nat.le_refl _) (.cells #[.int .i64 10, .int .i64 99] 3))
  replace hu2 := hu2.later ((Below.refl _ _).alloc (Nat.le_refl _) (.cells #[.int .i64 10, .int .i64 99] 3))
  replace hu3 := hu3.later ((Below.refl _ _).alloc (Nat.le_refl _) (.cells #[.int .i64 10, .int .i64 99] 3))
  replace jB := bwA jB (Nat.le_refl _) (.cells #[.int .i64 10, .int .i64 99] 3)
  obtain ⟨bjI4, hbjI4⟩ : ∃ b, y9.heap.size = b := ⟨_, rfl⟩
  (try rw [hbjI4] at jI4)
  (try rw [hbjI4])
  clear hbjI4
  generalize (y9.alloc (.cells #[.int .i64 10, .int .i64 99] 3)) = V5 at jI4  hu0 hu1 hu2 hu3 jB ⊢
  refine (kloads_any 8000 8000 2 _ (F2 10 99) (by decide) _ (ints_b2 jI4)).mono ?_
  rintro e y10 ⟨u4, rfl, hu4, hb⟩
  replace jI4 := jI4.call hb
  replace hu0 := hu0.later hb
  replace hu1 := hu1.later hb
  replace hu2 := hu2.later hb
  replace hu3 := hu3.later hb
  replace jB := bwS jB (Nat.le_refl _) hb
  clear hb
  obtain ⟨ka4, kc4, rfl, _, _, _⟩ := id hu4
  clear jI4
  go_upto_region 2 with fail
  have jL := Blk.new y10 #[.slice ka0 1 kc0, .slice ka1 1 kc1, .slice ka2 1 kc2, .slice ka3 2 kc3, .slice ka4 2 kc4] 43
  replace hu0 := hu0.later ((Below.refl _ _).alloc (Nat.le_refl _) (.cells #[.slice ka0 1 kc0, .slice ka1 1 kc1, .slice ka2 1 kc2, .slice ka3 2 kc3, .slice ka4 2 kc4] 43))
  replace hu1 := hu1.later ((Below.refl _ _).alloc (Nat.le_refl _) (.cells #[.slice ka0 1 kc0, .slice ka1 1 kc1, .slice ka2 1 kc2, .slice ka3 2 kc3, .slice ka4 2 kc4] 43))
  replace hu2 := hu2.later ((Below.refl _ _).alloc (Nat.le_refl _) (.cells #[.slice ka0 1 kc0, .slice ka1 1 kc1, .slice ka2 1 kc2, .slice ka3 2 kc3, .slice ka4 2 kc4] 43))
  replace hu3 := hu3.later ((Below.refl _ _).alloc (Nat.le_refl _) (.cells #[.slice ka0 1 kc0, .slice ka1 1 kc1, .slice ka2 1 kc2, .slice ka3 2 kc3, .slice ka4 2 kc4] 43))
  replace hu4 := hu4.later ((Below.refl _ _).alloc (Nat.le_refl _) (.cells #[.slice ka0 1 kc0, .slice ka1 1 kc1, .slice ka2 1 kc2, .slice ka3 2 kc3, .slice ka4 2 kc4] 43))
  replace jB := bwA jB (Nat.le_refl _) (.cells #[.slice ka0 1 kc0, .slice ka1 1 kc1, .slice ka2 1 kc2, .slice ka3 2 kc3, .slice ka4 2 kc4] 43)
  obtain ⟨bjL, hbjL⟩ : ∃ b, y10.heap.size = b := ⟨_, rfl⟩
  (try rw [hbjL] at jL)
  (try rw [hbjL])
  clear hbjL
  generalize (y10.alloc (.cells #[.slice ka0 1 kc0, .slice ka1 1 kc1, .slice ka2 1 kc2, .slice ka3 2 kc3, .slice ka4 2 kc4] 43)) = V6 at jL  hu0 hu1 hu2 hu3 hu4 jB ⊢
  go_upto_region 3 with fail
  have jW0 := Blk.new V6 #[.int .i64 1] 3
  replace jL := jL.alloc (.cells #[.int .i64 1] 3)
  replace hu0 := hu0.later ((Below.refl _ _).alloc (Nat.le_refl _) (.cells #[.int .i64 1] 3))
  replace hu1 := hu1.later ((Below.refl _ _).alloc (Nat.le_refl _) (.cells #[.int .i64 1] 3))
  replace hu2 := hu2.later ((Below.refl _ _).alloc (Nat.le_refl _) (.cells #[.int .i64 1] 3))
  replace hu3 := hu3.later ((Below.refl _ _).alloc (Nat.le_refl _) (.cells #[.int .i64 1] 3))
  replace hu4 := hu4.later ((Below.refl _ _).alloc (Nat.le_refl _) (.cells #[.int .i64 1] 3))
  replace jB := bwA jB (Nat.le_refl _) (.cells #[.int .i64 1] 3)
  have jW1 := blk_num (Blk.new (V6.alloc (.cells #[.int .i64 1] 3)) #[.int .i64 3] 3) (show (V6.alloc (.cells #[.int .i64 1] 3)).heap.size = V6.heap.size + 1 by simp)
  replace jW0 := jW0.alloc (.cells #[.int .i64 3] 3)
  replace jL := jL.alloc (.cells #[.int .i64 3] 3)
  replace hu0 := hu0.later ((Below.refl _ _).alloc (Nat.le_refl _) (.cells #[.int .i64 3] 3))
  replace hu1 := hu1.later ((Below.refl _ _).alloc (Nat.le_refl _) (.cells #[.int .i64 3] 3))
  replace hu2 := hu2.later ((Below.refl _ _).alloc (Nat.le_refl _) (.cells #[.int .i64 3] 3))
  replace hu3 := hu3.later ((Below.refl _ _).alloc (Nat.le_refl _) (.cells #[.int .i64 3] 3))
  replace hu4 := hu4.later ((Below.refl _ _).alloc (Nat.le_refl _) (.cells #[.int .i64 3] 3))
  replace jB := bwA jB (Nat.le_refl _) (.cells #[.int .i64 3] 3)
  have jW2 := blk_num (Blk.new ((V6.alloc (.cells #[.int .i64 1] 3)).alloc (.cells #[.int .i64 3] 3)) #[.int .i64 2] 3) (show ((V6.alloc (.cells #[.int .i64 1] 3)).alloc (.cells #[.int .i64 3] 3)).heap.size = V6.heap.size + 1 + 1 by simp)
  replace jW0 := jW0.alloc (.cells #[.int .i64 2] 3)
  replace jW1 := jW1.alloc (.cells #[.int .i64 2] 3)
  replace jL := jL.alloc (.cells #[.int .i64 2] 3)
  replace hu0 := hu0.later ((Below.refl _ _).alloc (Nat.le_refl _) (.cells #[.int .i64 2] 3))
  replace hu1 := hu1.later ((Below.refl _ _).alloc (Nat.le_refl _) (.cells #[.int .i64 2] 3))
  replace hu2 := hu2.later ((Below.refl _ _).alloc (Nat.le_refl _) (.cells #[.int .i64 2] 3))
  replace hu3 := hu3.later ((Below.refl _ _).alloc (Nat.le_refl _) (.cells #[.int .i64 2] 3))
  replace hu4 := hu4.later ((Below.refl _ _).alloc (Nat.le_refl _) (.cells #[.int .i64 2] 3))
  replace jB := bwA jB (Nat.le_refl _) (.cells #[.int .i64 2] 3)
  have jW3 := blk_num (Blk.new (((V6.alloc (.cells #[.int .i64 1] 3)).alloc (.cells #[.int .i64 3] 3)).alloc (.cells #[.int .i64 2] 3)) #[.int .i64 3, .int .i64 3] 3) (show (((V6.alloc (.cells #[.int .i64 1] 3)).alloc (.cells #[.int .i64 3] 3)).alloc (.cells #[.int .i64 2] 3)).heap.size = V6.heap.size + 1 + 1 + 1 by simp)
  replace jW0 := jW0.alloc (.cells #[.int .i64 3, .int .i64 3] 3)
  replace jW1 := jW1.alloc (.cells #[.int .i64 3, .int .i64 3] 3)
  replace jW2 := jW2.alloc (.cells #[.int .i64 3, .int .i64 3] 3)
  replace jL := jL.alloc (.cells #[.int .i64 3, .int .i64 3] 3)
  replace hu0 := hu0.later ((Below.refl _ _).alloc (Nat.le_refl _) (.cells #[.int .i64 3, .int .i64 3] 3))
  replace hu1 := hu1.later ((Below.refl _ _).alloc (Nat.le_refl _) (.cells #[.int .i64 3, .int .i64 3] 3))
  replace hu2 := hu2.later ((Below.refl _ _).alloc (Nat.le_refl _) (.cells #[.int .i64 3, .int .i64 3] 3))
  replace hu3 := hu3.later ((Below.refl _ _).alloc (Nat.le_refl _) (.cells #[.int .i64 3, .int .i64 3] 3))
  replace hu4 := hu4.later ((Below.refl _ _).alloc (Nat.le_refl _) (.cells #[.int .i64 3, .int .i64 3] 3))
  replace jB := bwA jB (Nat.le_refl _) (.cells #[.int .i64 3, .int .i64 3] 3)
  have jW4 := blk_num (Blk.new ((((V6.alloc (.cells #[.int .i64 1] 3)).alloc (.cells #[.int .i64 3] 3)).alloc (.cells #[.int .i64 2] 3)).alloc (.cells #[.int .i64 3, .int .i64 3] 3)) #[.int .i64 3, .int .i64 3] 3) (show ((((V6.alloc (.cells #[.int .i64 1] 3)).alloc (.cells #[.int .i64 3] 3)).alloc (.cells #[.int .i64 2] 3)).alloc (.cells #[.int .i64 3, .int .i64 3] 3)).heap.size = V6.heap.size + 1 + 1 + 1 + 1 by simp)
  replace jW0 := jW0.alloc (.cells #[.int .i64 3, .int .i64 3] 3)
  replace jW1 := jW1.alloc (.cells #[.int .i64 3, .int .i64 3] 3)
  replace jW2 := jW2.alloc (.cells #[.int .i64 3, .int .i64 3] 3)
  replace jW3 := jW3.alloc (.cells #[.int .i64 3, .int .i64 3] 3)
  replace jL := jL.alloc (.cells #[.int .i64 3, .int .i64 3] 3)
  replace hu0 := hu0.later ((Below.refl _ _).alloc (Nat.le_refl _) (.cells #[.int .i64 3, .int .i64 3] 3))
  replace hu1 := hu1.later ((Below.refl _ _).alloc (Nat.le_refl _) (.cells #[.int .i64 3, .int .i64 3] 3))
  replace hu2 := hu2.later ((Below.refl _ _).alloc (Nat.le_refl _) (.cells #[.int .i64 3, .int .i64 3] 3))
  replace hu3 := hu3.later ((Below.refl _ _).alloc (Nat.le_refl _) (.cells #[.int .i64 3, .int .i64 3] 3))
  replace hu4 := hu4.later ((Below.refl _ _).alloc (Nat.le_refl _) (.cells #[.int .i64 3, .int .i64 3] 3))
  replace jB := bwA jB (Nat.le_refl _) (.cells #[.int .i64 3, .int .i64 3] 3)
  have jW := blk_num (Blk.new (((((V6.alloc (.cells #[.int .i64 1] 3)).alloc (.cells #[.int .i64 3] 3)).alloc (.cells #[.int .i64 2] 3)).alloc (.cells #[.int .i64 3, .int .i64 3] 3)).alloc (.cells #[.int .i64 3, .int .i64 3] 3)) #[.slice (some ⟨(V6.heap.size), 0, none⟩) 1 1, .slice (some ⟨(V6.heap.size + 1), 0, none⟩) 1 1, .slice (some ⟨(V6.heap.size + 1 + 1), 0, none⟩) 1 1, .slice (some ⟨(V6.heap.size + 1 + 1 + 1), 0, none⟩) 2 2, .slice (some ⟨(V6.heap.size + 1 + 1 + 1 + 1), 0, none⟩) 2 2] 27) (show (((((V6.alloc (.cells #[.int .i64 1] 3)).alloc (.cells #[.int .i64 3] 3)).alloc (.cells #[.int .i64 2] 3)).alloc (.cells #[.int .i64 3, .int .i64 3] 3)).alloc (.cells #[.int .i64 3, .int .i64 3] 3)).heap.size = V6.heap.size + 1 + 1 + 1 + 1 + 1 by simp)
  replace jW0 := jW0.alloc (.cells #[.slice (some ⟨(V6.heap.size), 0, none⟩) 1 1, .slice (some ⟨(V6.heap.size + 1), 0, none⟩) 1 1, .slice (some ⟨(V6.heap.size + 1 + 1), 0, none⟩) 1 1, .slice (some ⟨(V6.heap.size + 1 + 1 + 1), 0, none⟩) 2 2, .slice (some ⟨(V6.heap.size + 1 + 1 + 1 + 1), 0, none⟩) 2 2] 27)
  replace jW1 := jW1.alloc (.cells #[.slice (some ⟨(V6.heap.size), 0, none⟩) 1 1, .slice (some ⟨(V6.heap.size + 1), 0, none⟩) 1 1, .slice (some ⟨(V6.heap.size + 1 + 1), 0, none⟩) 1 1, .slice (some ⟨(V6.heap.size + 1 + 1 + 1), 0, none⟩) 2 2, .slice (some ⟨(V6.heap.size + 1 + 1 + 1 + 1), 0, none⟩) 2 2] 27)
  replace jW2 := jW2.alloc (.cells #[.slice (some ⟨(V6.heap.size), 0, none⟩) 1 1, .slice (some ⟨(V6.heap.size + 1), 0, none⟩) 1 1, .slice (some ⟨(V6.heap.size + 1 + 1), 0, none⟩) 1 1, .slice (some ⟨(V6.heap.size + 1 + 1 + 1), 0, none⟩) 2 2, .slice (some ⟨(V6.heap.size + 1 + 1 + 1 + 1), 0, none⟩) 2 2] 27)
  replace jW3 := jW3.alloc (.cells #[.slice (some ⟨(V6.heap.size), 0, none⟩) 1 1, .slice (some ⟨(V6.heap.size + 1), 0, none⟩) 1 1, .slice (some ⟨(V6.heap.size + 1 + 1), 0, none⟩) 1 1, .slice (some ⟨(V6.heap.size + 1 + 1 + 1), 0, none⟩) 2 2, .slice (some ⟨(V6.heap.size + 1 + 1 + 1 + 1), 0, none⟩) 2 2] 27)
  replace jW4 := jW4.alloc (.cells #[.slice (some ⟨(V6.heap.size), 0, none⟩) 1 1, .slice (some ⟨(V6.heap.size + 1), 0, none⟩) 1 1, .slice (some ⟨(V6.heap.size + 1 + 1), 0, none⟩) 1 1, .slice (some ⟨(V6.heap.size + 1 + 1 + 1), 0, none⟩) 2 2, .slice (some ⟨(V6.heap.size + 1 + 1 + 1 + 1), 0, none⟩) 2 2] 27)
  replace jL := jL.alloc (.cells #[.slice (some ⟨(V6.heap.size), 0, none⟩) 1 1, .slice (some ⟨(V6.heap.size + 1), 0, none⟩) 1 1, .slice (some ⟨(V6.heap.size + 1 + 1), 0, none⟩) 1 1, .slice (some ⟨(V6.heap.size + 1 + 1 + 1), 0, none⟩) 2 2, .slice (some ⟨(V6.heap.size + 1 + 1 + 1 + 1), 0, none⟩) 2 2] 27)
  replace hu0 := hu0.later ((Below.refl _ _).alloc (Nat.le_refl _) (.cells #[.slice (some ⟨(V6.heap.size), 0, none⟩) 1 1, .slice (some ⟨(V6.heap.size + 1), 0, none⟩) 1 1, .slice (some ⟨(V6.heap.size + 1 + 1), 0, none⟩) 1 1, .slice (some ⟨(V6.heap.size + 1 + 1 + 1), 0, none⟩) 2 2, .slice (some ⟨(V6.heap.size + 1 + 1 + 1 + 1), 0, none⟩) 2 2] 27))
  replace hu1 := hu1.later ((Below.refl _ _).alloc (Nat.le_refl _) (.cells #[.slice (some ⟨(V6.heap.size), 0, none⟩) 1 1, .slice (some ⟨(V6.heap.size + 1), 0, none⟩) 1 1, .slice (some ⟨(V6.heap.size + 1 + 1), 0, none⟩) 1 1, .slice (some ⟨(V6.heap.size + 1 + 1 + 1), 0, none⟩) 2 2, .slice (some ⟨(V6.heap.size + 1 + 1 + 1 + 1), 0, none⟩) 2 2] 27))
  replace hu2 := hu2.later ((Below.refl _ _).alloc (Nat.le_refl _) (.cells #[.slice (some ⟨(V6.heap.size), 0, none⟩) 1 1, .slice (some ⟨(V6.heap.size + 1), 0, none⟩) 1 1, .slice (some ⟨(V6.heap.size + 1 + 1), 0, none⟩) 1 1, .slice (some ⟨(V6.heap.size + 1 + 1 + 1), 0, none⟩) 2 2, .slice (some ⟨(V6.heap.size + 1 + 1 + 1 + 1), 0, none⟩) 2 2] 27))
  replace hu3 := hu3.later ((Below.refl _ _).alloc (Nat.le_refl _) (.cells #[.slice (some ⟨(V6.heap.size), 0, none⟩) 1 1, .slice (some ⟨(V6.heap.size + 1), 0, none⟩) 1 1, .slice (some ⟨(V6.heap.size + 1 + 1), 0, none⟩) 1 1, .slice (some ⟨(V6.heap.size + 1 + 1 + 1), 0, none⟩) 2 2, .slice (some ⟨(V6.heap.size + 1 + 1 + 1 + 1), 0, none⟩) 2 2] 27))
  replace hu4 := hu4.later ((Below.refl _ _).alloc (Nat.le_refl _) (.cells #[.slice (some ⟨(V6.heap.size), 0, none⟩) 1 1, .slice (some ⟨(V6.heap.size + 1), 0, none⟩) 1 1, .slice (some ⟨(V6.heap.size + 1 + 1), 0, none⟩) 1 1, .slice (some ⟨(V6.heap.size + 1 + 1 + 1), 0, none⟩) 2 2, .slice (some ⟨(V6.heap.size + 1 + 1 + 1 + 1), 0, none⟩) 2 2] 27))
  replace jB := bwA jB (Nat.le_refl _) (.cells #[.slice (some ⟨(V6.heap.size), 0, none⟩) 1 1, .slice (some ⟨(V6.heap.size + 1), 0, none⟩) 1 1, .slice (some ⟨(V6.heap.size + 1 + 1), 0, none⟩) 1 1, .slice (some ⟨(V6.heap.size + 1 + 1 + 1), 0, none⟩) 2 2, .slice (some ⟨(V6.heap.size + 1 + 1 + 1 + 1), 0, none⟩) 2 2] 27)
  obtain ⟨bjW0, hbjW0⟩ : ∃ b, V6.heap.size = b := ⟨_, rfl⟩
  (try rw [hbjW0] at jW0)
  (try rw [hbjW0] at jW1)
  (try rw [hbjW0] at jW2)
  (try rw [hbjW0] at jW3)
  (try rw [hbjW0] at jW4)
  (try rw [hbjW0] at jW)
  (try rw [hbjW0] at jL)
  (try rw [hbjW0] at hu0)
  (try rw [hbjW0] at hu1)
  (try rw [hbjW0] at hu2)
  (try rw [hbjW0] at hu3)
  (try rw [hbjW0] at hu4)
  (try rw [hbjW0] at jB)
  (try rw [hbjW0])
  clear hbjW0
  obtain ⟨bjW1, hbjW1⟩ : ∃ b, bjW0 + 1 = b := ⟨_, rfl⟩
  (try rw [hbjW1] at jW0)
  (try rw [hbjW1] at jW1)
  (try rw [hbjW1] at jW2)
  (try rw [hbjW1] at jW3)
  (try rw [hbjW1] at jW4)
  (try rw [hbjW1] at jW)
  (try rw [hbjW1] at jL)
  (try rw [hbjW1] at hu0)
  (try rw [hbjW1] at hu1)
  (try rw [hbjW1] at hu2)
  (try rw [hbjW1] at hu3)
  (try rw [hbjW1] at hu4)
  (try rw [hbjW1] at jB)
  (try rw [hbjW1])
  clear hbjW1
  obtain ⟨bjW2, hbjW2⟩ : ∃ b, bjW1 + 1 = b := ⟨_, rfl⟩
  (try rw [hbjW2] at jW0)
  (try rw [hbjW2] at jW1)
  (try rw [hbjW2] at jW2)
  (try rw [hbjW2] at jW3)
  (try rw [hbjW2] at jW4)
  (try rw [hbjW2] at jW)
  (try rw [hbjW2] at jL)
  (try rw [hbjW2] at hu0)
  (try rw [hbjW2] at hu1)
  (try rw [hbjW2] at hu2)
  (try rw [hbjW2] at hu3)
  (try rw [hbjW2] at hu4)
  (try rw [hbjW2] at jB)
  (try rw [hbjW2])
  clear hbjW2
  obtain ⟨bjW3, hbjW3⟩ : ∃ b, bjW2 + 1 = b := ⟨_, rfl⟩
  (try rw [hbjW3] at jW0)
  (try rw [hbjW3] at jW1)
  (try rw [hbjW3] at jW2)
  (try rw [hbjW3] at jW3)
  (try rw [hbjW3] at jW4)
  (try rw [hbjW3] at jW)
  (try rw [hbjW3] at jL)
  (try rw [hbjW3] at hu0)
  (try rw [hbjW3] at hu1)
  (try rw [hbjW3] at hu2)
  (try rw [hbjW3] at hu3)
  (try rw [hbjW3] at hu4)
  (try rw [hbjW3] at jB)
  (try rw [hbjW3])
  clear hbjW3
  obtain ⟨bjW4, hbjW4⟩ : ∃ b, bjW3 + 1 = b := ⟨_, rfl⟩
  (try rw [hbjW4] at jW0)
  (try rw [hbjW4] at jW1)
  (try rw [hbjW4] at jW2)
  (try rw [hbjW4] at jW3)
  (try rw [hbjW4] at jW4)
  (try rw [hbjW4] at jW)
  (try rw [hbjW4] at jL)
  (try rw [hbjW4] at hu0)
  (try rw [hbjW4] at hu1)
  (try rw [hbjW4] at hu2)
  (try rw [hbjW4] at hu3)
  (try rw [hbjW4] at hu4)
  (try rw [hbjW4] at jB)
  (try rw [hbjW4])
  clear hbjW4
  obtain ⟨bjW, hbjW⟩ : ∃ b, bjW4 + 1 = b := ⟨_, rfl⟩
  (try rw [hbjW] at jW0)
  (try rw [hbjW] at jW1)
  (try rw [hbjW] at jW2)
  (try rw [hbjW] at jW3)
  (try rw [hbjW] at jW4)
  (try rw [hbjW] at jW)
  (try rw [hbjW] at jL)
  (try rw [hbjW] at hu0)
  (try rw [hbjW] at hu1)
  (try rw [hbjW] at hu2)
  (try rw [hbjW] at hu3)
  (try rw [hbjW] at hu4)
  (try rw [hbjW] at jB)
  (try rw [hbjW])
  clear hbjW
  generalize ((((((V6.alloc (.cells #[.int .i64 1] 3)).alloc (.cells #[.int .i64 3] 3)).alloc (.cells #[.int .i64 2] 3)).alloc (.cells #[.int .i64 3, .int .i64 3] 3)).alloc (.cells #[.int .i64 3, .int .i64 3] 3)).alloc (.cells #[.slice (some ⟨bjW0, 0, none⟩) 1 1, .slice (some ⟨bjW1, 0, none⟩) 1 1, .slice (some ⟨bjW2, 0, none⟩) 1 1, .slice (some ⟨bjW3, 0, none⟩) 2 2, .slice (some ⟨bjW4, 0, none⟩) 2 2] 27)) = V7 at jW0 jW1 jW2 jW3 jW4 jW jL hu0 hu1 hu2 hu3 hu4 jB ⊢
  have HRd : Hid (∀ k, k < 5 → ∃ (u : Value) (n : Nat) (L : Nat → Ld) (v : Value) (X : Nat → Int), V7.cell? ⟨bjL, k, none⟩ = some u ∧ V7.cell? ⟨bjW, k, none⟩ = some v ∧ LoadsAt V7 u n L ∧ IntsAt V7 v n X ∧ n ≤ 30 ∧ (∀ i, i < n → (L i).Ok 1) ∧ (∀ i, i < n → verdV pl0 (fun _ => 500) (fun _ => 500) 0 (fun _ => 0) (fun _ => 0) n L (L i) = X i)) := fun k hk => by
    obtain rfl | rfl | rfl | rfl | rfl : k = 0 ∨ k = 1 ∨ k = 2 ∨ k = 3 ∨ k = 4 := by omega
    · exact ⟨_, 1, _, _, _, jL.cell 0 rfl, jW.cell 0 rfl, hu0, ints_b1 jW0, by decide, (fun i hi => (by have e : i = 0 := (by omega); subst e; exact ld_ok (by decide) (by decide))), (fun i hi => (by have e : i = 0 := (by omega); subst e; decide))⟩
    · exact ⟨_, 1, _, _, _, jL.cell 1 rfl, jW.cell 1 rfl, hu1, ints_b1 jW1, by decide, (fun i hi => (by have e : i = 0 := (by omega); subst e; exact ld_ok (by decide) (by decide))), (fun i hi => (by have e : i = 0 := (by omega); subst e; decide))⟩
    · exact ⟨_, 1, _, _, _, jL.cell 2 rfl, jW.cell 2 rfl, hu2, ints_b1 jW2, by decide, (fun i hi => (by have e : i = 0 := (by omega); subst e; exact ld_ok (by decide) (by decide))), (fun i hi => (by have e : i = 0 := (by omega); subst e; decide))⟩
    · exact ⟨_, 2, _, _, _, jL.cell 3 rfl, jW.cell 3 rfl, hu3, ints_b2 jW3, by decide, (fun i hi => (by rcases (show i = 0 ∨ i = 1 by omega) with e | e <;> subst e <;> exact ld_ok (by decide) (by decide))), (fun i hi => (by rcases (show i = 0 ∨ i = 1 by omega) with e | e <;> subst e <;> decide))⟩
    · exact ⟨_, 2, _, _, _, jL.cell 4 rfl, jW.cell 4 rfl, hu4, ints_b2 jW4, by decide, (fun i hi => (by rcases (show i = 0 ∨ i = 1 by omega) with e | e <;> subst e <;> exact ld_ok (by decide) (by decide))), (fun i hi => (by rcases (show i = 0 ∨ i = 1 by omega) with e | e <;> subst e <;> decide))⟩
  have HB := Lib.hid jB
  have HF := Below.refl V7.heap.size V7
  clear jL jW jW0 jW1 jW2 jW3 jW4 hu0 hu1 hu2 hu3 hu4 jB
  go_wp2_with fail
  go_loopw [3] (fun i wr => ∃ k : Nat, k ≤ 5 ∧ i = .int .i64 k ∧ Below V7.heap.size V7 wr) (fun i _ => 5 - (intOf i).toNat)
  case atStart => exact ⟨0, by omega, rfl, HF⟩
  case round =>
    clear HF
    obtain ⟨k, hk, rfl, hB⟩ := hrel
    by_cases hlt2 : k < 5
    · obtain ⟨u, n, L, v, X, h1, h2, h3, h4, h5, h6, h7⟩ := HRd.out k hlt2
      have hk3 : (k : Int) < 5 := by omega
      have H1 := Lib.hid h1
      have H2 := Lib.hid h2
      have H4 := Lib.hid h4
      have HG : Hid (∀ vS vC vI W, Below V7.heap.size V7 W → TabAt W vS pl0.S → TabAt W vC pl0.C → PairsAt W vI 1 (fun _ => 500) (fun _ => 500) → Calls Try.prog 35 #[.agg #[.int .i64 pl0.s0, .int .i64 pl0.s1, vS, vC, .int .i64 pl0.ne, .int .i64 pl0.ed, .int .i64 pl0.gr, .int .i64 pl0.lo, .int .i64 pl0.hi, .int .i64 pl0.sh, .int .i64 pl0.wi], vI, .slice none 0 0, u] W fun e w' => ∃ u, e = .returned (.tuple #[u, .int .i64 0]) ∧ IntsAt w' u n X ∧ Below W.heap.size W w') := fun vS vC vI W hW a1 a2 a3 =>
        kn_hold h5 h6 (by decide) (fun i hi => absurd hi (by omega)) h7 vS vC vI _ u W a1 a2 a3 (pairs_none _ _ _) (h3.later hW)
      clear h1 h2 h3 h4 h5 h6 h7 HRd
      go_upto_region 6 with fail
      refine wp_region_held_drew (S := (fun v => Below V7.heap.size V7 v)) (by kernel_rfl) ?_ (fun hH => ?_)
      · (try dsimp only); (exact hB.drew)
      refine tkY 3 (some 45) ?_ ?_ ?_
      rotate_left
      · intro w _; go_simp; (try with_reducible rfl)
      (try simp only [cq])
      refine tkY 4 (some 46) ?_ ?_ ?_
      rotate_left
      · intro w _; go_simp; (try with_reducible rfl)
      (try simp only [cq])
      refine tkY 5 (some 47) ?_ ?_ ?_
      rotate_left
      · intro w hS0; (try dsimp only at hS0); have t0 := cell_later hS0 H1.out; have z0 := World.block_lt_of_cell? _ _ t0;go_simp; (try with_reducible rfl)
      (try simp only [cq])
      refine tkY 6 (some 48) ?_ ?_ ?_
      rotate_left
      · intro w hS0; (try dsimp only at hS0); have t0 := cell_later hS0 H1.out; have z0 := World.block_lt_of_cell? _ _ t0;go_simp; (try with_reducible rfl)
      (try simp only [cq])
      refine wpAnyH_ready (rs := [0]) (by kernel_rfl) (by simp) ?_
      refine arc1 (some 42) fun K hK => ?_
      go_simp
      (refine (kplate_any _).mono ?_; rintro e w' ⟨vS, vC, rfl, hS9, hC9, hb⟩; have HTS := Lib.hid hS9; have HTC := Lib.hid hC9; clear hS9 hC9)
      refine hK.out _ _ ?_ ?_
      · (exact bwS hH (Nat.le_refl _) hb)
      (try clear hH); (try clear hb)
      intro hH
      clear hK K
      (try simp only [cq])
      refine wpAnyH_ready (rs := [1]) (by kernel_rfl) (by simp) ?_
      refine arc1 (some 43) fun K hK => ?_
      go_simp
      (refine (kone_any _ _).mono ?_; rintro e w' ⟨rfl, hb⟩; replace HTS := Lib.hid (PairsAt.later HTS.out hb); replace HTC := Lib.hid (PairsAt.later HTC.out hb))
      refine hK.out _ _ ?_ ?_
      · (exact bwS hH (Nat.le_refl _) hb)
      (try clear hH); (try clear hb)
      intro hH
      clear hK K
      (try simp only [cq])
      refine wpAnyH_ready (rs := [2]) (by kernel_rfl) (by simp) ?_
      refine arc1 (some 44) fun K hK => ?_
      go_simp
      first | refine oA hK ?_ (fun hH hA => ?_) | refine oD hK ?_ (fun hH hA => ?_)
      · exact bwA hH (Nat.le_refl _) _
      have kN := hA
      clear hA
      obtain ⟨bN, hbN⟩ : ∃ b, Blk.num kN = b := ⟨_, rfl⟩
      obtain ⟨Wn, hWn⟩ : ∃ V, Blk.wld kN = V := ⟨_, rfl⟩
      simp only [Blk.num] at hbN
      simp only [Blk.wld] at hWn
      replace HTS := Lib.hid (PairsAt.later HTS.out (show Below _ _ Wn by rw [← hWn]; exact (Below.refl _ _).alloc (Nat.le_refl _) _))
      replace HTC := Lib.hid (PairsAt.later HTC.out (show Below _ _ Wn by rw [← hWn]; exact (Below.refl _ _).alloc (Nat.le_refl _) _))
      rw [hWn] at hH kN ⊢
      rw [hbN] at kN ⊢
      clear hbN hWn
      clear hK K
      (try simp only [cq])
      refine wpAnyH_ready (rs := [7]) (by kernel_rfl) (by simp) ?_
      refine arc1 (some 49) fun K hK => ?_
      go_simp
      (refine (HG.out _ _ _ _ hH HTS.out HTC.out (pairs_c1 kN)).mono ?_; rintro e w' ⟨uu, rfl, huu, hb⟩)
      refine hK.out _ _ ?_ ?_
      · (exact bwS hH (Nat.le_refl _) hb)
      (try clear hH); (try clear hb)
      intro hH
      clear hK K
      (try simp only [cq])
      refine tkY 8 (some 41) ?_ ?_ ?_
      rotate_left
      · intro w _; go_simp; (try with_reducible rfl)
      (try simp only [cq])
      refine tkY 9 (some 50) ?_ ?_ ?_
      rotate_left
      · intro w _; go_simp; (try with_reducible rfl)
      (try simp only [cq])
      refine tkY 10 (some 51) ?_ ?_ ?_
      rotate_left
      · intro w _; go_simp; (try with_reducible rfl)
      (try simp only [cq])
      refine tkY 11 (some 4) ?_ ?_ ?_
      rotate_left
      · intro w _; go_simp; (try with_reducible rfl)
      (try simp only [cq])
      refine tkY 12 (some 5) ?_ ?_ ?_
      rotate_left
      · intro w _; go_simp; (try with_reducible rfl)
      (try simp only [cq])
      refine wpAnyH_done (by kernel_rfl) ?_ _
      (try dsimp only [Act.put])
      (try simp only [cq])
      clear hB HG
      have hB := hH
      clear hH
      have HSm := Lib.hid (ksame_yes uu v n X _ huu (H4.out.later hB))
      have t2 := cell_later hB H2.out
      have z2 := World.block_lt_of_cell? _ _ t2
      clear huu
      go_wp2_with fail
      clear t2 z2
      refine HSm.out.mono ?_
      rintro e w8 ⟨rfl, hb⟩
      replace hB := bwS hB (Nat.le_refl _) hb
      clear hb HSm
      go_wp2
      go_roundw
      case rel => exact ⟨k + 1, by omega, by go_num, hB⟩
      case measure => simp [intOf]; omega
    · have jB := bwS HB.out (by have := HB.out.size; omega) hB
      clear hB HRd HB
      go_upto_region 10 with fail
      have jM := Blk.new wr #[.int .i64 50, .int .i64 35, .int .i64 34] 3
      replace jB := bwA jB (Nat.le_refl _) (.cells #[.int .i64 50, .int .i64 35, .int .i64 34] 3)
      have jN := blk_num (Blk.new (wr.alloc (.cells #[.int .i64 50, .int .i64 35, .int .i64 34] 3)) #[.int .i64 1, .int .i64 2, .int .i64 3] 3) (show (wr.alloc (.cells #[.int .i64 50, .int .i64 35, .int .i64 34] 3)).heap.size = wr.heap.size + 1 by simp)
      replace jM := jM.alloc (.cells #[.int .i64 1, .int .i64 2, .int .i64 3] 3)
      replace jB := bwA jB (Nat.le_refl _) (.cells #[.int .i64 1, .int .i64 2, .int .i64 3] 3)
      obtain ⟨bjM, hbjM⟩ : ∃ b, wr.heap.size = b := ⟨_, rfl⟩
      (try rw [hbjM] at jM)
      (try rw [hbjM] at jN)
      (try rw [hbjM])
      clear hbjM
      obtain ⟨bjN, hbjN⟩ : ∃ b, bjM + 1 = b := ⟨_, rfl⟩
      (try rw [hbjN] at jM)
      (try rw [hbjN] at jN)
      (try rw [hbjN])
      clear hbjN
      generalize ((wr.alloc (.cells #[.int .i64 50, .int .i64 35, .int .i64 34] 3)).alloc (.cells #[.int .i64 1, .int .i64 2, .int .i64 3] 3)) = V8 at jM jN   jB ⊢
      have HRq : Hid (∀ k, k < 3 → ∃ (a r : Int), V8.cell? ⟨bjM, k, none⟩ = some (.int .i64 a) ∧ V8.cell? ⟨bjN, k, none⟩ = some (.int .i64 r) ∧ (Ld.mk a 5000 5000 0).Ok 1 ∧ verdV pl0 (fun _ => 500) (fun _ => 500) 1 (fun _ => 30) (fun _ => 40) 1 (fun _ => ⟨a, 5000, 5000, 0⟩) ⟨a, 5000, 5000, 0⟩ = r) := fun k hk => by
        obtain rfl | rfl | rfl : k = 0 ∨ k = 1 ∨ k = 2 := by omega
        · exact ⟨_, _, jM.cell 0 rfl, jN.cell 0 rfl, ld_ok (by decide) (by decide), by decide⟩
        · exact ⟨_, _, jM.cell 1 rfl, jN.cell 1 rfl, ld_ok (by decide) (by decide), by decide⟩
        · exact ⟨_, _, jM.cell 2 rfl, jN.cell 2 rfl, ld_ok (by decide) (by decide), by decide⟩
      have HB := Lib.hid jB
      have HF := Below.refl V8.heap.size V8
      clear jM jN jB hlt2 hk
      go_wp2_with fail
      go_loopw [8] (fun i wr => ∃ k : Nat, k ≤ 3 ∧ i = .int .i64 k ∧ Below V8.heap.size V8 wr) (fun i _ => 3 - (intOf i).toNat)
      case atStart => exact ⟨0, by omega, rfl, HF⟩
      case round =>
        clear HF
        obtain ⟨k, hk, rfl, hB⟩ := hrel
        by_cases hlt2 : k < 3
        · obtain ⟨a, r, h1, h2, h3, h4⟩ := HRq.out k hlt2
          have hk3 : (k : Int) < 3 := by omega
          have H1 := Lib.hid h1
          have H2 := Lib.hid h2
          have HG : Hid (∀ vS vC vI vK vL W, Below V8.heap.size V8 W → TabAt W vS pl0.S → TabAt W vC pl0.C → PairsAt W vI 1 (fun _ => 500) (fun _ => 500) → PairsAt W vK 1 (fun _ => 30) (fun _ => 40) → LoadsAt W vL 1 (fun _ => ⟨a, 5000, 5000, 0⟩) → Calls Try.prog 35 #[.agg #[.int .i64 pl0.s0, .int .i64 pl0.s1, vS, vC, .int .i64 pl0.ne, .int .i64 pl0.ed, .int .i64 pl0.gr, .int .i64 pl0.lo, .int .i64 pl0.hi, .int .i64 pl0.sh, .int .i64 pl0.wi], vI, vK, vL] W fun e w' => ∃ u, e = .returned (.tuple #[u, .int .i64 0]) ∧ IntsAt w' u 1 (fun _ => r) ∧ Below W.heap.size W w') := fun vS vC vI vK vL W hW a1 a2 a3 a4 a5 =>
            kn_hold (by decide) (fun _ _ => h3) (by decide) (fun _ _ => by decide) (fun _ _ => h4) vS vC vI vK vL W a1 a2 a3 a4 a5
          clear h1 h2 h3 h4 HRq
          go_upto_region 13 with fail
          (
 let S9 : World → Prop := (fun v => Below V8.heap.size V8 v)
 refine wp_region_held_drew (S := S9) (by kernel_rfl) ?_ (fun hH => ?_)
 · (try dsimp only); (exact hB.drew)
 apply share4_VVVVNNN (fun (vS : Value) (vC : Value) (vL : Value) (uu : Value) (bI : Nat) (bK : Nat) (bP : Nat) (W : World) => S9 W ∧ Blk W bI #[.int .i64 500, .int .i64 500] 23 ∧ Blk W bK #[.int .i64 30, .int .i64 40] 23 ∧ Blk W bP #[.int .i64 a] 3 ∧ (TabAt W vS pl0.S) ∧ (TabAt W vC pl0.C) ∧ (LoadsAt W vL 1 (fun _ => ⟨a, 5000, 5000, 0⟩)) ∧ (IntsAt W uu 1 (fun _ => r)))
 {
 intro X_0_1_2_3_4_5_10_11_12
 apply share4_VVVNNN (fun (vS : Value) (vC : Value) (vL : Value) (bI : Nat) (bK : Nat) (bP : Nat) (W : World) => S9 W ∧ Blk W bI #[.int .i64 500, .int .i64 500] 23 ∧ Blk W bK #[.int .i64 30, .int .i64 40] 23 ∧ Blk W bP #[.int .i64 a] 3 ∧ (TabAt W vS pl0.S) ∧ (TabAt W vC pl0.C) ∧ (LoadsAt W vL 1 (fun _ => ⟨a, 5000, 5000, 0⟩)))
 {
 intro X_0_1_2_3_4_5_10_11
 apply share4_VVNNN (fun (vS : Value) (vC : Value) (bI : Nat) (bK : Nat) (bP : Nat) (W : World) => S9 W ∧ Blk W bI #[.int .i64 500, .int .i64 500] 23 ∧ Blk W bK #[.int .i64 30, .int .i64 40] 23 ∧ Blk W bP #[.int .i64 a] 3 ∧ (TabAt W vS pl0.S) ∧ (TabAt W vC pl0.C))
 {
 intro X_0_1_2_3_4_5_10
 apply share4_VVVNN (fun (vS : Value) (vC : Value) (vL : Value) (bI : Nat) (bP : Nat) (W : World) => S9 W ∧ Blk W bI #[.int .i64 500, .int .i64 500] 23 ∧ Blk W bP #[.int .i64 a] 3 ∧ (TabAt W vS pl0.S) ∧ (TabAt W vC pl0.C) ∧ (LoadsAt W vL 1 (fun _ => ⟨a, 5000, 5000, 0⟩)))
 {
 intro X_0_1_2_3_5_10_11
 apply share4_VVVNN (fun (vS : Value) (vC : Value) (vL : Value) (bK : Nat) (bP : Nat) (W : World) => S9 W ∧ Blk W bK #[.int .i64 30, .int .i64 40] 23 ∧ Blk W bP #[.int .i64 a] 3 ∧ (TabAt W vS pl0.S) ∧ (TabAt W vC pl0.C) ∧ (LoadsAt W vL 1 (fun _ => ⟨a, 5000, 5000, 0⟩)))
 {
 intro X_0_1_3_4_5_10_11
 apply share4_VVNN (fun (vS : Value) (vC : Value) (bI : Nat) (bK : Nat) (W : World) => S9 W ∧ Blk W bI #[.int .i64 500, .int .i64 500] 23 ∧ Blk W bK #[.int .i64 30, .int .i64 40] 23 ∧ (TabAt W vS pl0.S) ∧ (TabAt W vC pl0.C))
 {
 intro X_0_1_2_3_4_5
 apply share4_VVNNN (fun (vS : Value) (vC : Value) (bI : Nat) (bK : Nat) (bP : Nat) (W : World) => S9 W ∧ Blk W bI #[.int .i64 500, .int .i64 500] 23 ∧ Blk W bK #[.int .i64 30, .int .i64 40] 23 ∧ Blk W bP #[.int .i64 a] 3 ∧ (TabAt W vS pl0.S) ∧ (TabAt W vC pl0.C))
 {
 intro X_0_1_2_3_4_10
 apply share4_VVNN (fun (vS : Value) (vC : Value) (bI : Nat) (bP : Nat) (W : World) => S9 W ∧ Blk W bI #[.int .i64 500, .int .i64 500] 23 ∧ Blk W bP #[.int .i64 a] 3 ∧ (TabAt W vS pl0.S) ∧ (TabAt W vC pl0.C))
 {
 intro X_0_1_2_3_5_10
 apply share4_VVNN (fun (vS : Value) (vC : Value) (bK : Nat) (bP : Nat) (W : World) => S9 W ∧ Blk W bK #[.int .i64 30, .int .i64 40] 23 ∧ Blk W bP #[.int .i64 a] 3 ∧ (TabAt W vS pl0.S) ∧ (TabAt W vC pl0.C))
 {
 intro X_0_1_3_4_5_10
 apply share4_VVVN (fun (vS : Value) (vC : Value) (vL : Value) (bP : Nat) (W : World) => S9 W ∧ Blk W bP #[.int .i64 a] 3 ∧ (TabAt W vS pl0.S) ∧ (TabAt W vC pl0.C) ∧ (LoadsAt W vL 1 (fun _ => ⟨a, 5000, 5000, 0⟩)))
 {
 intro X_0_1_3_5_10_11
 apply share4_VVNN (fun (vS : Value) (vC : Value) (bI : Nat) (bK : Nat) (W : World) => S9 W ∧ Blk W bI #[.int .i64 500, .int .i64 500] 23 ∧ Blk W bK #[.int .i64 30, .int .i64 40] 23 ∧ (TabAt W vS pl0.S) ∧ (TabAt W vC pl0.C))
 {
 intro X_0_1_2_3_4
 apply share4_VVN (fun (vS : Value) (vC : Value) (bI : Nat) (W : World) => S9 W ∧ Blk W bI #[.int .i64 500, .int .i64 500] 23 ∧ (TabAt W vS pl0.S) ∧ (TabAt W vC pl0.C))
 {
 intro X_0_1_2_3_5
 apply share4_VVNN (fun (vS : Value) (vC : Value) (bI : Nat) (bP : Nat) (W : World) => S9 W ∧ Blk W bI #[.int .i64 500, .int .i64 500] 23 ∧ Blk W bP #[.int .i64 a] 3 ∧ (TabAt W vS pl0.S) ∧ (TabAt W vC pl0.C))
 {
 intro X_0_1_2_3_10
 apply share4_VVN (fun (vS : Value) (vC : Value) (bK : Nat) (W : World) => S9 W ∧ Blk W bK #[.int .i64 30, .int .i64 40] 23 ∧ (TabAt W vS pl0.S) ∧ (TabAt W vC pl0.C))
 {
 intro X_0_1_3_4_5
 apply share4_VVNN (fun (vS : Value) (vC : Value) (bK : Nat) (bP : Nat) (W : World) => S9 W ∧ Blk W bK #[.int .i64 30, .int .i64 40] 23 ∧ Blk W bP #[.int .i64 a] 3 ∧ (TabAt W vS pl0.S) ∧ (TabAt W vC pl0.C))
 {
 intro X_0_1_3_4_10
 apply share4_VVN (fun (vS : Value) (vC : Value) (bP : Nat) (W : World) => S9 W ∧ Blk W bP #[.int .i64 a] 3 ∧ (TabAt W vS pl0.S) ∧ (TabAt W vC pl0.C))
 {
 intro X_0_1_3_5_10
 apply share4_VVN (fun (vS : Value) (vC : Value) (bI : Nat) (W : World) => S9 W ∧ Blk W bI #[.int .i64 500, .int .i64 500] 23 ∧ (TabAt W vS pl0.S) ∧ (TabAt W vC pl0.C))
 {
 intro X_0_1_2_3
 apply share4_VVNN (fun (vS : Value) (vC : Value) (bI : Nat) (bP : Nat) (W : World) => S9 W ∧ Blk W bI #[.int .i64 500, .int .i64 500] 23 ∧ Blk W bP #[.int .i64 a] 3 ∧ (TabAt W vS pl0.S) ∧ (TabAt W vC pl0.C))
 {
 intro X_0_1_2_10
 apply share4_VVN (fun (vS : Value) (vC : Value) (bK : Nat) (W : World) => S9 W ∧ Blk W bK #[.int .i64 30, .int .i64 40] 23 ∧ (TabAt W vS pl0.S) ∧ (TabAt W vC pl0.C))
 {
 intro X_0_1_3_4
 apply share4_VV (fun (vS : Value) (vC : Value) (W : World) => S9 W ∧ (TabAt W vS pl0.S) ∧ (TabAt W vC pl0.C))
 {
 intro X_0_1_3_5
 apply share4_VVN (fun (vS : Value) (vC : Value) (bP : Nat) (W : World) => S9 W ∧ Blk W bP #[.int .i64 a] 3 ∧ (TabAt W vS pl0.S) ∧ (TabAt W vC pl0.C))
 {
 intro X_0_1_3_10
 apply share4_VVN (fun (vS : Value) (vC : Value) (bI : Nat) (W : World) => S9 W ∧ Blk W bI #[.int .i64 500, .int .i64 500] 23 ∧ (TabAt W vS pl0.S) ∧ (TabAt W vC pl0.C))
 {
 intro X_0_1_2
 apply share4_VV (fun (vS : Value) (vC : Value) (W : World) => S9 W ∧ (TabAt W vS pl0.S) ∧ (TabAt W vC pl0.C))
 {
 intro X_0_1_3
 apply share4_VVN (fun (vS : Value) (vC : Value) (bP : Nat) (W : World) => S9 W ∧ Blk W bP #[.int .i64 a] 3 ∧ (TabAt W vS pl0.S) ∧ (TabAt W vC pl0.C))
 {
 intro X_0_1_10
 apply share4_VV (fun (vS : Value) (vC : Value) (W : World) => S9 W ∧ (TabAt W vS pl0.S) ∧ (TabAt W vC pl0.C))
 {
 intro X_0_1
 apply share4_VVN (fun (vS : Value) (vC : Value) (bP : Nat) (W : World) => S9 W ∧ Blk W bP #[.int .i64 a] 3 ∧ (TabAt W vS pl0.S) ∧ (TabAt W vC pl0.C))
 {
 intro X_0_10
 apply share4_VV (fun (vS : Value) (vC : Value) (W : World) => S9 W ∧ (TabAt W vS pl0.S) ∧ (TabAt W vC pl0.C))
 {
 intro X_0
 apply share4_N (fun (bP : Nat) (W : World) => S9 W ∧ Blk W bP #[.int .i64 a] 3)
 {
 intro X_10
 refine tkY 6 (some 78) ?_ ?_ ?_
 rotate_left
 · intro w _; go_simp; (try with_reducible rfl)
 (try simp only [cq])
 refine tkY 7 (some 79) ?_ ?_ ?_
 rotate_left
 · intro w _; go_simp; (try with_reducible rfl)
 (try simp only [cq])
 refine tkY 8 (some 80) ?_ ?_ ?_
 rotate_left
 · intro w hS0; (try dsimp only at hS0); have t0 := cell_later hS0 H1.out; have z0 := World.block_lt_of_cell? _ _ t0;go_simp; (try with_reducible rfl)
 (try simp only [cq])
 refine tkY 9 (some 81) ?_ ?_ ?_
 rotate_left
 · intro w hS0; (try dsimp only at hS0); have t0 := cell_later hS0 H1.out; have z0 := World.block_lt_of_cell? _ _ t0;go_simp; (try with_reducible rfl)
 (try simp only [cq])
 refine wpAnyH_ready (rs := [0, 10]) (by kernel_rfl) (by simp) ?_
 refine arc (some 72) (fun K hK => ?_) ?_
 {
 go_simp
 (refine (kplate_any _).mono ?_; rintro e w' ⟨vS, vC, rfl, HTS, HTC, hb⟩)
 refine hK.out _ _ ?_ ?_
 · (exact bwS hH (Nat.le_refl _) hb)
 (try clear hH); (try clear hb)
 intro hH
 clear hK K
 (try simp only [cq])
 exact X_0 vS vC w' ⟨hH, HTS, HTC⟩
 }
 refine arc (some 82) (fun K hK => ?_) ?_
 {
 go_simp
 first | refine oA hK ?_ (fun hH hA => ?_) | refine oD hK ?_ (fun hH hA => ?_)
 · exact bwA hH (Nat.le_refl _) _
 clear hK K
 (try simp only [cq])
 obtain ⟨bP, hbA⟩ : ∃ b, Blk.num hA = b := ⟨_, rfl⟩
 obtain ⟨W, hW⟩ : ∃ V, Blk.wld hA = V := ⟨_, rfl⟩
 simp only [Blk.num] at hbA
 simp only [Blk.wld] at hW
 rw [hW] at hH hA ⊢
 rw [hbA] at hA ⊢
 clear hW hbA
 have hAbP := hA
 clear hA
 exact X_10 bP W ⟨hH, hAbP⟩
 }
 exact AllReadyH.nil
 }
 {
 intro bP W hall
 obtain ⟨hH, hAbP⟩ := hall
 (try dsimp only at hH)
 refine wpAnyH_ready (rs := [0]) (by kernel_rfl) (by simp) ?_
 refine arc1 (some 72) fun K hK => ?_
 go_simp
 (refine (kplate_any _).mono ?_; rintro e w' ⟨vS, vC, rfl, HTS, HTC, hb⟩)
 (replace hAbP := hAbP.call hb)
 refine hK.out _ _ ?_ ?_
 · (exact bwS hH (Nat.le_refl _) hb)
 (try clear hH); (try clear hb)
 intro hH
 clear hK K
 (try simp only [cq])
 exact X_0_10 vS vC bP w' ⟨hH, hAbP, HTS, HTC⟩
 }
 }
 {
 intro vS vC W hall
 obtain ⟨hH, HTS, HTC⟩ := hall
 (try dsimp only at hH)
 refine wpAnyH_ready (rs := [1, 10]) (by kernel_rfl) (by simp) ?_
 refine arc (some 73) (fun K hK => ?_) ?_
 {
 go_simp
 (refine (kone_any _ _).mono ?_; rintro e w' ⟨rfl, hb⟩)
 replace HTS := PairsAt.later HTS hb
 replace HTC := PairsAt.later HTC hb
 refine hK.out _ _ ?_ ?_
 · (exact bwS hH (Nat.le_refl _) hb)
 (try clear hH); (try clear hb)
 intro hH
 clear hK K
 (try simp only [cq])
 exact X_0_1 vS vC w' ⟨hH, HTS, HTC⟩
 }
 refine arc (some 82) (fun K hK => ?_) ?_
 {
 go_simp
 first | refine oA hK ?_ (fun hH hA => ?_) | refine oD hK ?_ (fun hH hA => ?_)
 · exact bwA hH (Nat.le_refl _) _
 clear hK K
 (try simp only [cq])
 obtain ⟨bP, hbA⟩ : ∃ b, Blk.num hA = b := ⟨_, rfl⟩
 obtain ⟨W, hW⟩ : ∃ V, Blk.wld hA = V := ⟨_, rfl⟩
 simp only [Blk.num] at hbA
 simp only [Blk.wld] at hW
 replace HTS := PairsAt.later HTS (show Below _ _ W by rw [← hW]; first | exact (Below.refl _ _).alloc (Nat.le_refl _) _ | exact ((Below.refl _ _).alloc (Nat.le_refl _) _).drew)
 replace HTC := PairsAt.later HTC (show Below _ _ W by rw [← hW]; first | exact (Below.refl _ _).alloc (Nat.le_refl _) _ | exact ((Below.refl _ _).alloc (Nat.le_refl _) _).drew)
 rw [hW] at hH hA ⊢
 rw [hbA] at hA ⊢
 clear hW hbA
 have hAbP := hA
 clear hA
 exact X_0_10 vS vC bP W ⟨hH, hAbP, HTS, HTC⟩
 }
 exact AllReadyH.nil
 }
 }
 {
 intro vS vC bP W hall
 obtain ⟨hH, hAbP, HTS, HTC⟩ := hall
 (try dsimp only at hH)
 refine wpAnyH_ready (rs := [1]) (by kernel_rfl) (by simp) ?_
 refine arc1 (some 73) fun K hK => ?_
 go_simp
 (refine (kone_any _ _).mono ?_; rintro e w' ⟨rfl, hb⟩)
 (replace hAbP := hAbP.call hb)
 replace HTS := PairsAt.later HTS hb
 replace HTC := PairsAt.later HTC hb
 refine hK.out _ _ ?_ ?_
 · (exact bwS hH (Nat.le_refl _) hb)
 (try clear hH); (try clear hb)
 intro hH
 clear hK K
 (try simp only [cq])
 exact X_0_1_10 vS vC bP w' ⟨hH, hAbP, HTS, HTC⟩
 }
 }
 {
 intro vS vC W hall
 obtain ⟨hH, HTS, HTC⟩ := hall
 (try dsimp only at hH)
 refine wpAnyH_ready (rs := [2, 3, 10]) (by kernel_rfl) (by simp) ?_
 refine arc (some 74) (fun K hK => ?_) ?_
 {
 go_simp
 first | refine oA hK ?_ (fun hH hA => ?_) | refine oD hK ?_ (fun hH hA => ?_)
 · exact bwA hH (Nat.le_refl _) _
 clear hK K
 (try simp only [cq])
 obtain ⟨bI, hbA⟩ : ∃ b, Blk.num hA = b := ⟨_, rfl⟩
 obtain ⟨W, hW⟩ : ∃ V, Blk.wld hA = V := ⟨_, rfl⟩
 simp only [Blk.num] at hbA
 simp only [Blk.wld] at hW
 replace HTS := PairsAt.later HTS (show Below _ _ W by rw [← hW]; first | exact (Below.refl _ _).alloc (Nat.le_refl _) _ | exact ((Below.refl _ _).alloc (Nat.le_refl _) _).drew)
 replace HTC := PairsAt.later HTC (show Below _ _ W by rw [← hW]; first | exact (Below.refl _ _).alloc (Nat.le_refl _) _ | exact ((Below.refl _ _).alloc (Nat.le_refl _) _).drew)
 rw [hW] at hH hA ⊢
 rw [hbA] at hA ⊢
 clear hW hbA
 have hAbI := hA
 clear hA
 exact X_0_1_2 vS vC bI W ⟨hH, hAbI, HTS, HTC⟩
 }
 refine arc (some 75) (fun K hK => ?_) ?_
 {
 go_simp
 (refine (kspan_any _ _ _).mono ?_; rintro e w' ⟨rfl, hb⟩)
 replace HTS := PairsAt.later HTS hb
 replace HTC := PairsAt.later HTC hb
 refine hK.out _ _ ?_ ?_
 · (exact bwS hH (Nat.le_refl _) hb)
 (try clear hH); (try clear hb)
 intro hH
 clear hK K
 (try simp only [cq])
 exact X_0_1_3 vS vC w' ⟨hH, HTS, HTC⟩
 }
 refine arc (some 82) (fun K hK => ?_) ?_
 {
 go_simp
 first | refine oA hK ?_ (fun hH hA => ?_) | refine oD hK ?_ (fun hH hA => ?_)
 · exact bwA hH (Nat.le_refl _) _
 clear hK K
 (try simp only [cq])
 obtain ⟨bP, hbA⟩ : ∃ b, Blk.num hA = b := ⟨_, rfl⟩
 obtain ⟨W, hW⟩ : ∃ V, Blk.wld hA = V := ⟨_, rfl⟩
 simp only [Blk.num] at hbA
 simp only [Blk.wld] at hW
 replace HTS := PairsAt.later HTS (show Below _ _ W by rw [← hW]; first | exact (Below.refl _ _).alloc (Nat.le_refl _) _ | exact ((Below.refl _ _).alloc (Nat.le_refl _) _).drew)
 replace HTC := PairsAt.later HTC (show Below _ _ W by rw [← hW]; first | exact (Below.refl _ _).alloc (Nat.le_refl _) _ | exact ((Below.refl _ _).alloc (Nat.le_refl _) _).drew)
 rw [hW] at hH hA ⊢
 rw [hbA] at hA ⊢
 clear hW hbA
 have hAbP := hA
 clear hA
 exact X_0_1_10 vS vC bP W ⟨hH, hAbP, HTS, HTC⟩
 }
 exact AllReadyH.nil
 }
 }
 {
 intro vS vC bP W hall
 obtain ⟨hH, hAbP, HTS, HTC⟩ := hall
 (try dsimp only at hH)
 refine wpAnyH_ready (rs := [2, 3]) (by kernel_rfl) (by simp) ?_
 refine arc (some 74) (fun K hK => ?_) ?_
 {
 go_simp
 first | refine oA hK ?_ (fun hH hA => ?_) | refine oD hK ?_ (fun hH hA => ?_)
 · exact bwA hH (Nat.le_refl _) _
 clear hK K
 (try simp only [cq])
 obtain ⟨bI, hbA⟩ : ∃ b, Blk.num hA = b := ⟨_, rfl⟩
 obtain ⟨W, hW⟩ : ∃ V, Blk.wld hA = V := ⟨_, rfl⟩
 simp only [Blk.num] at hbA
 simp only [Blk.wld] at hW
 first | replace hAbP := awB hW hAbP | replace hAbP := awD hW hAbP
 replace HTS := PairsAt.later HTS (show Below _ _ W by rw [← hW]; first | exact (Below.refl _ _).alloc (Nat.le_refl _) _ | exact ((Below.refl _ _).alloc (Nat.le_refl _) _).drew)
 replace HTC := PairsAt.later HTC (show Below _ _ W by rw [← hW]; first | exact (Below.refl _ _).alloc (Nat.le_refl _) _ | exact ((Below.refl _ _).alloc (Nat.le_refl _) _).drew)
 rw [hW] at hH hA ⊢
 rw [hbA] at hA ⊢
 clear hW hbA
 have hAbI := hA
 clear hA
 exact X_0_1_2_10 vS vC bI bP W ⟨hH, hAbI, hAbP, HTS, HTC⟩
 }
 refine arc (some 75) (fun K hK => ?_) ?_
 {
 go_simp
 (refine (kspan_any _ _ _).mono ?_; rintro e w' ⟨rfl, hb⟩)
 (replace hAbP := hAbP.call hb)
 replace HTS := PairsAt.later HTS hb
 replace HTC := PairsAt.later HTC hb
 refine hK.out _ _ ?_ ?_
 · (exact bwS hH (Nat.le_refl _) hb)
 (try clear hH); (try clear hb)
 intro hH
 clear hK K
 (try simp only [cq])
 exact X_0_1_3_10 vS vC bP w' ⟨hH, hAbP, HTS, HTC⟩
 }
 exact AllReadyH.nil
 }
 }
 {
 intro vS vC W hall
 obtain ⟨hH, HTS, HTC⟩ := hall
 (try dsimp only at hH)
 refine wpAnyH_ready (rs := [2, 4, 5, 10]) (by kernel_rfl) (by simp) ?_
 refine arc (some 74) (fun K hK => ?_) ?_
 {
 go_simp
 first | refine oA hK ?_ (fun hH hA => ?_) | refine oD hK ?_ (fun hH hA => ?_)
 · exact bwA hH (Nat.le_refl _) _
 clear hK K
 (try simp only [cq])
 obtain ⟨bI, hbA⟩ : ∃ b, Blk.num hA = b := ⟨_, rfl⟩
 obtain ⟨W, hW⟩ : ∃ V, Blk.wld hA = V := ⟨_, rfl⟩
 simp only [Blk.num] at hbA
 simp only [Blk.wld] at hW
 replace HTS := PairsAt.later HTS (show Below _ _ W by rw [← hW]; first | exact (Below.refl _ _).alloc (Nat.le_refl _) _ | exact ((Below.refl _ _).alloc (Nat.le_refl _) _).drew)
 replace HTC := PairsAt.later HTC (show Below _ _ W by rw [← hW]; first | exact (Below.refl _ _).alloc (Nat.le_refl _) _ | exact ((Below.refl _ _).alloc (Nat.le_refl _) _).drew)
 rw [hW] at hH hA ⊢
 rw [hbA] at hA ⊢
 clear hW hbA
 have hAbI := hA
 clear hA
 exact X_0_1_2_3 vS vC bI W ⟨hH, hAbI, HTS, HTC⟩
 }
 refine arc (some 76) (fun K hK => ?_) ?_
 {
 go_simp
 first | refine oA hK ?_ (fun hH hA => ?_) | refine oD hK ?_ (fun hH hA => ?_)
 · exact bwA hH (Nat.le_refl _) _
 clear hK K
 (try simp only [cq])
 obtain ⟨bK, hbA⟩ : ∃ b, Blk.num hA = b := ⟨_, rfl⟩
 obtain ⟨W, hW⟩ : ∃ V, Blk.wld hA = V := ⟨_, rfl⟩
 simp only [Blk.num] at hbA
 simp only [Blk.wld] at hW
 replace HTS := PairsAt.later HTS (show Below _ _ W by rw [← hW]; first | exact (Below.refl _ _).alloc (Nat.le_refl _) _ | exact ((Below.refl _ _).alloc (Nat.le_refl _) _).drew)
 replace HTC := PairsAt.later HTC (show Below _ _ W by rw [← hW]; first | exact (Below.refl _ _).alloc (Nat.le_refl _) _ | exact ((Below.refl _ _).alloc (Nat.le_refl _) _).drew)
 rw [hW] at hH hA ⊢
 rw [hbA] at hA ⊢
 clear hW hbA
 have hAbK := hA
 clear hA
 exact X_0_1_3_4 vS vC bK W ⟨hH, hAbK, HTS, HTC⟩
 }
 refine arc (some 77) (fun K hK => ?_) ?_
 {
 go_simp
 (refine (kone_any _ _).mono ?_; rintro e w' ⟨rfl, hb⟩)
 replace HTS := PairsAt.later HTS hb
 replace HTC := PairsAt.later HTC hb
 refine hK.out _ _ ?_ ?_
 · (exact bwS hH (Nat.le_refl _) hb)
 (try clear hH); (try clear hb)
 intro hH
 clear hK K
 (try simp only [cq])
 exact X_0_1_3_5 vS vC w' ⟨hH, HTS, HTC⟩
 }
 refine arc (some 82) (fun K hK => ?_) ?_
 {
 go_simp
 first | refine oA hK ?_ (fun hH hA => ?_) | refine oD hK ?_ (fun hH hA => ?_)
 · exact bwA hH (Nat.le_refl _) _
 clear hK K
 (try simp only [cq])
 obtain ⟨bP, hbA⟩ : ∃ b, Blk.num hA = b := ⟨_, rfl⟩
 obtain ⟨W, hW⟩ : ∃ V, Blk.wld hA = V := ⟨_, rfl⟩
 simp only [Blk.num] at hbA
 simp only [Blk.wld] at hW
 replace HTS := PairsAt.later HTS (show Below _ _ W by rw [← hW]; first | exact (Below.refl _ _).alloc (Nat.le_refl _) _ | exact ((Below.refl _ _).alloc (Nat.le_refl _) _).drew)
 replace HTC := PairsAt.later HTC (show Below _ _ W by rw [← hW]; first | exact (Below.refl _ _).alloc (Nat.le_refl _) _ | exact ((Below.refl _ _).alloc (Nat.le_refl _) _).drew)
 rw [hW] at hH hA ⊢
 rw [hbA] at hA ⊢
 clear hW hbA
 have hAbP := hA
 clear hA
 exact X_0_1_3_10 vS vC bP W ⟨hH, hAbP, HTS, HTC⟩
 }
 exact AllReadyH.nil
 }
 }
 {
 intro vS vC bI W hall
 obtain ⟨hH, hAbI, HTS, HTC⟩ := hall
 (try dsimp only at hH)
 refine wpAnyH_ready (rs := [3, 10]) (by kernel_rfl) (by simp) ?_
 refine arc (some 75) (fun K hK => ?_) ?_
 {
 go_simp
 (refine (kspan_any _ _ _).mono ?_; rintro e w' ⟨rfl, hb⟩)
 (replace hAbI := hAbI.call hb)
 replace HTS := PairsAt.later HTS hb
 replace HTC := PairsAt.later HTC hb
 refine hK.out _ _ ?_ ?_
 · (exact bwS hH (Nat.le_refl _) hb)
 (try clear hH); (try clear hb)
 intro hH
 clear hK K
 (try simp only [cq])
 exact X_0_1_2_3 vS vC bI w' ⟨hH, hAbI, HTS, HTC⟩
 }
 refine arc (some 82) (fun K hK => ?_) ?_
 {
 go_simp
 first | refine oA hK ?_ (fun hH hA => ?_) | refine oD hK ?_ (fun hH hA => ?_)
 · exact bwA hH (Nat.le_refl _) _
 clear hK K
 (try simp only [cq])
 obtain ⟨bP, hbA⟩ : ∃ b, Blk.num hA = b := ⟨_, rfl⟩
 obtain ⟨W, hW⟩ : ∃ V, Blk.wld hA = V := ⟨_, rfl⟩
 simp only [Blk.num] at hbA
 simp only [Blk.wld] at hW
 first | replace hAbI := awB hW hAbI | replace hAbI := awD hW hAbI
 replace HTS := PairsAt.later HTS (show Below _ _ W by rw [← hW]; first | exact (Below.refl _ _).alloc (Nat.le_refl _) _ | exact ((Below.refl _ _).alloc (Nat.le_refl _) _).drew)
 replace HTC := PairsAt.later HTC (show Below _ _ W by rw [← hW]; first | exact (Below.refl _ _).alloc (Nat.le_refl _) _ | exact ((Below.refl _ _).alloc (Nat.le_refl _) _).drew)
 rw [hW] at hH hA ⊢
 rw [hbA] at hA ⊢
 clear hW hbA
 have hAbP := hA
 clear hA
 exact X_0_1_2_10 vS vC bI bP W ⟨hH, hAbI, hAbP, HTS, HTC⟩
 }
 exact AllReadyH.nil
 }
 }
 {
 intro vS vC bP W hall
 obtain ⟨hH, hAbP, HTS, HTC⟩ := hall
 (try dsimp only at hH)
 refine wpAnyH_ready (rs := [2, 4, 5]) (by kernel_rfl) (by simp) ?_
 refine arc (some 74) (fun K hK => ?_) ?_
 {
 go_simp
 first | refine oA hK ?_ (fun hH hA => ?_) | refine oD hK ?_ (fun hH hA => ?_)
 · exact bwA hH (Nat.le_refl _) _
 clear hK K
 (try simp only [cq])
 obtain ⟨bI, hbA⟩ : ∃ b, Blk.num hA = b := ⟨_, rfl⟩
 obtain ⟨W, hW⟩ : ∃ V, Blk.wld hA = V := ⟨_, rfl⟩
 simp only [Blk.num] at hbA
 simp only [Blk.wld] at hW
 first | replace hAbP := awB hW hAbP | replace hAbP := awD hW hAbP
 replace HTS := PairsAt.later HTS (show Below _ _ W by rw [← hW]; first | exact (Below.refl _ _).alloc (Nat.le_refl _) _ | exact ((Below.refl _ _).alloc (Nat.le_refl _) _).drew)
 replace HTC := PairsAt.later HTC (show Below _ _ W by rw [← hW]; first | exact (Below.refl _ _).alloc (Nat.le_refl _) _ | exact ((Below.refl _ _).alloc (Nat.le_refl _) _).drew)
 rw [hW] at hH hA ⊢
 rw [hbA] at hA ⊢
 clear hW hbA
 have hAbI := hA
 clear hA
 exact X_0_1_2_3_10 vS vC bI bP W ⟨hH, hAbI, hAbP, HTS, HTC⟩
 }
 refine arc (some 76) (fun K hK => ?_) ?_
 {
 go_simp
 first | refine oA hK ?_ (fun hH hA => ?_) | refine oD hK ?_ (fun hH hA => ?_)
 · exact bwA hH (Nat.le_refl _) _
 clear hK K
 (try simp only [cq])
 obtain ⟨bK, hbA⟩ : ∃ b, Blk.num hA = b := ⟨_, rfl⟩
 obtain ⟨W, hW⟩ : ∃ V, Blk.wld hA = V := ⟨_, rfl⟩
 simp only [Blk.num] at hbA
 simp only [Blk.wld] at hW
 first | replace hAbP := awB hW hAbP | replace hAbP := awD hW hAbP
 replace HTS := PairsAt.later HTS (show Below _ _ W by rw [← hW]; first | exact (Below.refl _ _).alloc (Nat.le_refl _) _ | exact ((Below.refl _ _).alloc (Nat.le_refl _) _).drew)
 replace HTC := PairsAt.later HTC (show Below _ _ W by rw [← hW]; first | exact (Below.refl _ _).alloc (Nat.le_refl _) _ | exact ((Below.refl _ _).alloc (Nat.le_refl _) _).drew)
 rw [hW] at hH hA ⊢
 rw [hbA] at hA ⊢
 clear hW hbA
 have hAbK := hA
 clear hA
 exact X_0_1_3_4_10 vS vC bK bP W ⟨hH, hAbK, hAbP, HTS, HTC⟩
 }
 refine arc (some 77) (fun K hK => ?_) ?_
 {
 go_simp
 (refine (kone_any _ _).mono ?_; rintro e w' ⟨rfl, hb⟩)
 (replace hAbP := hAbP.call hb)
 replace HTS := PairsAt.later HTS hb
 replace HTC := PairsAt.later HTC hb
 refine hK.out _ _ ?_ ?_
 · (exact bwS hH (Nat.le_refl _) hb)
 (try clear hH); (try clear hb)
 intro hH
 clear hK K
 (try simp only [cq])
 exact X_0_1_3_5_10 vS vC bP w' ⟨hH, hAbP, HTS, HTC⟩
 }
 exact AllReadyH.nil
 }
 }
 {
 intro vS vC W hall
 obtain ⟨hH, HTS, HTC⟩ := hall
 (try dsimp only at hH)
 refine wpAnyH_ready (rs := [2, 4, 10]) (by kernel_rfl) (by simp) ?_
 refine arc (some 74) (fun K hK => ?_) ?_
 {
 go_simp
 first | refine oA hK ?_ (fun hH hA => ?_) | refine oD hK ?_ (fun hH hA => ?_)
 · exact bwA hH (Nat.le_refl _) _
 clear hK K
 (try simp only [cq])
 obtain ⟨bI, hbA⟩ : ∃ b, Blk.num hA = b := ⟨_, rfl⟩
 obtain ⟨W, hW⟩ : ∃ V, Blk.wld hA = V := ⟨_, rfl⟩
 simp only [Blk.num] at hbA
 simp only [Blk.wld] at hW
 replace HTS := PairsAt.later HTS (show Below _ _ W by rw [← hW]; first | exact (Below.refl _ _).alloc (Nat.le_refl _) _ | exact ((Below.refl _ _).alloc (Nat.le_refl _) _).drew)
 replace HTC := PairsAt.later HTC (show Below _ _ W by rw [← hW]; first | exact (Below.refl _ _).alloc (Nat.le_refl _) _ | exact ((Below.refl _ _).alloc (Nat.le_refl _) _).drew)
 rw [hW] at hH hA ⊢
 rw [hbA] at hA ⊢
 clear hW hbA
 have hAbI := hA
 clear hA
 exact X_0_1_2_3_5 vS vC bI W ⟨hH, hAbI, HTS, HTC⟩
 }
 refine arc (some 76) (fun K hK => ?_) ?_
 {
 go_simp
 first | refine oA hK ?_ (fun hH hA => ?_) | refine oD hK ?_ (fun hH hA => ?_)
 · exact bwA hH (Nat.le_refl _) _
 clear hK K
 (try simp only [cq])
 obtain ⟨bK, hbA⟩ : ∃ b, Blk.num hA = b := ⟨_, rfl⟩
 obtain ⟨W, hW⟩ : ∃ V, Blk.wld hA = V := ⟨_, rfl⟩
 simp only [Blk.num] at hbA
 simp only [Blk.wld] at hW
 replace HTS := PairsAt.later HTS (show Below _ _ W by rw [← hW]; first | exact (Below.refl _ _).alloc (Nat.le_refl _) _ | exact ((Below.refl _ _).alloc (Nat.le_refl _) _).drew)
 replace HTC := PairsAt.later HTC (show Below _ _ W by rw [← hW]; first | exact (Below.refl _ _).alloc (Nat.le_refl _) _ | exact ((Below.refl _ _).alloc (Nat.le_refl _) _).drew)
 rw [hW] at hH hA ⊢
 rw [hbA] at hA ⊢
 clear hW hbA
 have hAbK := hA
 clear hA
 exact X_0_1_3_4_5 vS vC bK W ⟨hH, hAbK, HTS, HTC⟩
 }
 refine arc (some 82) (fun K hK => ?_) ?_
 {
 go_simp
 first | refine oA hK ?_ (fun hH hA => ?_) | refine oD hK ?_ (fun hH hA => ?_)
 · exact bwA hH (Nat.le_refl _) _
 clear hK K
 (try simp only [cq])
 obtain ⟨bP, hbA⟩ : ∃ b, Blk.num hA = b := ⟨_, rfl⟩
 obtain ⟨W, hW⟩ : ∃ V, Blk.wld hA = V := ⟨_, rfl⟩
 simp only [Blk.num] at hbA
 simp only [Blk.wld] at hW
 replace HTS := PairsAt.later HTS (show Below _ _ W by rw [← hW]; first | exact (Below.refl _ _).alloc (Nat.le_refl _) _ | exact ((Below.refl _ _).alloc (Nat.le_refl _) _).drew)
 replace HTC := PairsAt.later HTC (show Below _ _ W by rw [← hW]; first | exact (Below.refl _ _).alloc (Nat.le_refl _) _ | exact ((Below.refl _ _).alloc (Nat.le_refl _) _).drew)
 rw [hW] at hH hA ⊢
 rw [hbA] at hA ⊢
 clear hW hbA
 have hAbP := hA
 clear hA
 exact X_0_1_3_5_10 vS vC bP W ⟨hH, hAbP, HTS, HTC⟩
 }
 exact AllReadyH.nil
 }
 }
 {
 intro vS vC bK W hall
 obtain ⟨hH, hAbK, HTS, HTC⟩ := hall
 (try dsimp only at hH)
 refine wpAnyH_ready (rs := [2, 5, 10]) (by kernel_rfl) (by simp) ?_
 refine arc (some 74) (fun K hK => ?_) ?_
 {
 go_simp
 first | refine oA hK ?_ (fun hH hA => ?_) | refine oD hK ?_ (fun hH hA => ?_)
 · exact bwA hH (Nat.le_refl _) _
 clear hK K
 (try simp only [cq])
 obtain ⟨bI, hbA⟩ : ∃ b, Blk.num hA = b := ⟨_, rfl⟩
 obtain ⟨W, hW⟩ : ∃ V, Blk.wld hA = V := ⟨_, rfl⟩
 simp only [Blk.num] at hbA
 simp only [Blk.wld] at hW
 first | replace hAbK := awB hW hAbK | replace hAbK := awD hW hAbK
 replace HTS := PairsAt.later HTS (show Below _ _ W by rw [← hW]; first | exact (Below.refl _ _).alloc (Nat.le_refl _) _ | exact ((Below.refl _ _).alloc (Nat.le_refl _) _).drew)
 replace HTC := PairsAt.later HTC (show Below _ _ W by rw [← hW]; first | exact (Below.refl _ _).alloc (Nat.le_refl _) _ | exact ((Below.refl _ _).alloc (Nat.le_refl _) _).drew)
 rw [hW] at hH hA ⊢
 rw [hbA] at hA ⊢
 clear hW hbA
 have hAbI := hA
 clear hA
 exact X_0_1_2_3_4 vS vC bI bK W ⟨hH, hAbI, hAbK, HTS, HTC⟩
 }
 refine arc (some 77) (fun K hK => ?_) ?_
 {
 go_simp
 (refine (kone_any _ _).mono ?_; rintro e w' ⟨rfl, hb⟩)
 (replace hAbK := hAbK.call hb)
 replace HTS := PairsAt.later HTS hb
 replace HTC := PairsAt.later HTC hb
 refine hK.out _ _ ?_ ?_
 · (exact bwS hH (Nat.le_refl _) hb)
 (try clear hH); (try clear hb)
 intro hH
 clear hK K
 (try simp only [cq])
 exact X_0_1_3_4_5 vS vC bK w' ⟨hH, hAbK, HTS, HTC⟩
 }
 refine arc (some 82) (fun K hK => ?_) ?_
 {
 go_simp
 first | refine oA hK ?_ (fun hH hA => ?_) | refine oD hK ?_ (fun hH hA => ?_)
 · exact bwA hH (Nat.le_refl _) _
 clear hK K
 (try simp only [cq])
 obtain ⟨bP, hbA⟩ : ∃ b, Blk.num hA = b := ⟨_, rfl⟩
 obtain ⟨W, hW⟩ : ∃ V, Blk.wld hA = V := ⟨_, rfl⟩
 simp only [Blk.num] at hbA
 simp only [Blk.wld] at hW
 first | replace hAbK := awB hW hAbK | replace hAbK := awD hW hAbK
 replace HTS := PairsAt.later HTS (show Below _ _ W by rw [← hW]; first | exact (Below.refl _ _).alloc (Nat.le_refl _) _ | exact ((Below.refl _ _).alloc (Nat.le_refl _) _).drew)
 replace HTC := PairsAt.later HTC (show Below _ _ W by rw [← hW]; first | exact (Below.refl _ _).alloc (Nat.le_refl _) _ | exact ((Below.refl _ _).alloc (Nat.le_refl _) _).drew)
 rw [hW] at hH hA ⊢
 rw [hbA] at hA ⊢
 clear hW hbA
 have hAbP := hA
 clear hA
 exact X_0_1_3_4_10 vS vC bK bP W ⟨hH, hAbK, hAbP, HTS, HTC⟩
 }
 exact AllReadyH.nil
 }
 }
 {
 intro vS vC bI bP W hall
 obtain ⟨hH, hAbI, hAbP, HTS, HTC⟩ := hall
 (try dsimp only at hH)
 refine wpAnyH_ready (rs := [3]) (by kernel_rfl) (by simp) ?_
 refine arc1 (some 75) fun K hK => ?_
 go_simp
 (refine (kspan_any _ _ _).mono ?_; rintro e w' ⟨rfl, hb⟩)
 (replace hAbI := hAbI.call hb)
 (replace hAbP := hAbP.call hb)
 replace HTS := PairsAt.later HTS hb
 replace HTC := PairsAt.later HTC hb
 refine hK.out _ _ ?_ ?_
 · (exact bwS hH (Nat.le_refl _) hb)
 (try clear hH); (try clear hb)
 intro hH
 clear hK K
 (try simp only [cq])
 exact X_0_1_2_3_10 vS vC bI bP w' ⟨hH, hAbI, hAbP, HTS, HTC⟩
 }
 }
 {
 intro vS vC bI W hall
 obtain ⟨hH, hAbI, HTS, HTC⟩ := hall
 (try dsimp only at hH)
 refine wpAnyH_ready (rs := [4, 5, 10]) (by kernel_rfl) (by simp) ?_
 refine arc (some 76) (fun K hK => ?_) ?_
 {
 go_simp
 first | refine oA hK ?_ (fun hH hA => ?_) | refine oD hK ?_ (fun hH hA => ?_)
 · exact bwA hH (Nat.le_refl _) _
 clear hK K
 (try simp only [cq])
 obtain ⟨bK, hbA⟩ : ∃ b, Blk.num hA = b := ⟨_, rfl⟩
 obtain ⟨W, hW⟩ : ∃ V, Blk.wld hA = V := ⟨_, rfl⟩
 simp only [Blk.num] at hbA
 simp only [Blk.wld] at hW
 first | replace hAbI := awB hW hAbI | replace hAbI := awD hW hAbI
 replace HTS := PairsAt.later HTS (show Below _ _ W by rw [← hW]; first | exact (Below.refl _ _).alloc (Nat.le_refl _) _ | exact ((Below.refl _ _).alloc (Nat.le_refl _) _).drew)
 replace HTC := PairsAt.later HTC (show Below _ _ W by rw [← hW]; first | exact (Below.refl _ _).alloc (Nat.le_refl _) _ | exact ((Below.refl _ _).alloc (Nat.le_refl _) _).drew)
 rw [hW] at hH hA ⊢
 rw [hbA] at hA ⊢
 clear hW hbA
 have hAbK := hA
 clear hA
 exact X_0_1_2_3_4 vS vC bI bK W ⟨hH, hAbI, hAbK, HTS, HTC⟩
 }
 refine arc (some 77) (fun K hK => ?_) ?_
 {
 go_simp
 (refine (kone_any _ _).mono ?_; rintro e w' ⟨rfl, hb⟩)
 (replace hAbI := hAbI.call hb)
 replace HTS := PairsAt.later HTS hb
 replace HTC := PairsAt.later HTC hb
 refine hK.out _ _ ?_ ?_
 · (exact bwS hH (Nat.le_refl _) hb)
 (try clear hH); (try clear hb)
 intro hH
 clear hK K
 (try simp only [cq])
 exact X_0_1_2_3_5 vS vC bI w' ⟨hH, hAbI, HTS, HTC⟩
 }
 refine arc (some 82) (fun K hK => ?_) ?_
 {
 go_simp
 first | refine oA hK ?_ (fun hH hA => ?_) | refine oD hK ?_ (fun hH hA => ?_)
 · exact bwA hH (Nat.le_refl _) _
 clear hK K
 (try simp only [cq])
 obtain ⟨bP, hbA⟩ : ∃ b, Blk.num hA = b := ⟨_, rfl⟩
 obtain ⟨W, hW⟩ : ∃ V, Blk.wld hA = V := ⟨_, rfl⟩
 simp only [Blk.num] at hbA
 simp only [Blk.wld] at hW
 first | replace hAbI := awB hW hAbI | replace hAbI := awD hW hAbI
 replace HTS := PairsAt.later HTS (show Below _ _ W by rw [← hW]; first | exact (Below.refl _ _).alloc (Nat.le_refl _) _ | exact ((Below.refl _ _).alloc (Nat.le_refl _) _).drew)
 replace HTC := PairsAt.later HTC (show Below _ _ W by rw [← hW]; first | exact (Below.refl _ _).alloc (Nat.le_refl _) _ | exact ((Below.refl _ _).alloc (Nat.le_refl _) _).drew)
 rw [hW] at hH hA ⊢
 rw [hbA] at hA ⊢
 clear hW hbA
 have hAbP := hA
 clear hA
 exact X_0_1_2_3_10 vS vC bI bP W ⟨hH, hAbI, hAbP, HTS, HTC⟩
 }
 exact AllReadyH.nil
 }
 }
 {
 intro vS vC bP W hall
 obtain ⟨hH, hAbP, HTS, HTC⟩ := hall
 (try dsimp only at hH)
 refine wpAnyH_ready (rs := [2, 4, 11]) (by kernel_rfl) (by simp) ?_
 refine arc (some 74) (fun K hK => ?_) ?_
 {
 go_simp
 first | refine oA hK ?_ (fun hH hA => ?_) | refine oD hK ?_ (fun hH hA => ?_)
 · exact bwA hH (Nat.le_refl _) _
 clear hK K
 (try simp only [cq])
 obtain ⟨bI, hbA⟩ : ∃ b, Blk.num hA = b := ⟨_, rfl⟩
 obtain ⟨W, hW⟩ : ∃ V, Blk.wld hA = V := ⟨_, rfl⟩
 simp only [Blk.num] at hbA
 simp only [Blk.wld] at hW
 first | replace hAbP := awB hW hAbP | replace hAbP := awD hW hAbP
 replace HTS := PairsAt.later HTS (show Below _ _ W by rw [← hW]; first | exact (Below.refl _ _).alloc (Nat.le_refl _) _ | exact ((Below.refl _ _).alloc (Nat.le_refl _) _).drew)
 replace HTC := PairsAt.later HTC (show Below _ _ W by rw [← hW]; first | exact (Below.refl _ _).alloc (Nat.le_refl _) _ | exact ((Below.refl _ _).alloc (Nat.le_refl _) _).drew)
 rw [hW] at hH hA ⊢
 rw [hbA] at hA ⊢
 clear hW hbA
 have hAbI := hA
 clear hA
 exact X_0_1_2_3_5_10 vS vC bI bP W ⟨hH, hAbI, hAbP, HTS, HTC⟩
 }
 refine arc (some 76) (fun K hK => ?_) ?_
 {
 go_simp
 first | refine oA hK ?_ (fun hH hA => ?_) | refine oD hK ?_ (fun hH hA => ?_)
 · exact bwA hH (Nat.le_refl _) _
 clear hK K
 (try simp only [cq])
 obtain ⟨bK, hbA⟩ : ∃ b, Blk.num hA = b := ⟨_, rfl⟩
 obtain ⟨W, hW⟩ : ∃ V, Blk.wld hA = V := ⟨_, rfl⟩
 simp only [Blk.num] at hbA
 simp only [Blk.wld] at hW
 first | replace hAbP := awB hW hAbP | replace hAbP := awD hW hAbP
 replace HTS := PairsAt.later HTS (show Below _ _ W by rw [← hW]; first | exact (Below.refl _ _).alloc (Nat.le_refl _) _ | exact ((Below.refl _ _).alloc (Nat.le_refl _) _).drew)
 replace HTC := PairsAt.later HTC (show Below _ _ W by rw [← hW]; first | exact (Below.refl _ _).alloc (Nat.le_refl _) _ | exact ((Below.refl _ _).alloc (Nat.le_refl _) _).drew)
 rw [hW] at hH hA ⊢
 rw [hbA] at hA ⊢
 clear hW hbA
 have hAbK := hA
 clear hA
 exact X_0_1_3_4_5_10 vS vC bK bP W ⟨hH, hAbK, hAbP, HTS, HTC⟩
 }
 refine arc (some 83) (fun K hK => ?_) ?_
 {
 go_simp
 (refine (kloads_any 5000 5000 1 _ (fun _ => a) (by decide) _ (ints_b1 hAbP)).mono ?_; rintro e w' ⟨vL, rfl, HLD, hb⟩)
 (replace hAbP := hAbP.call hb)
 replace HTS := PairsAt.later HTS hb
 replace HTC := PairsAt.later HTC hb
 refine hK.out _ _ ?_ ?_
 · (exact bwS hH (Nat.le_refl _) hb)
 (try clear hH); (try clear hb)
 intro hH
 clear hK K
 (try simp only [cq])
 exact X_0_1_3_5_10_11 vS vC vL bP w' ⟨hH, hAbP, HTS, HTC, HLD⟩
 }
 exact AllReadyH.nil
 }
 }
 {
 intro vS vC bK bP W hall
 obtain ⟨hH, hAbK, hAbP, HTS, HTC⟩ := hall
 (try dsimp only at hH)
 refine wpAnyH_ready (rs := [2, 5]) (by kernel_rfl) (by simp) ?_
 refine arc (some 74) (fun K hK => ?_) ?_
 {
 go_simp
 first | refine oA hK ?_ (fun hH hA => ?_) | refine oD hK ?_ (fun hH hA => ?_)
 · exact bwA hH (Nat.le_refl _) _
 clear hK K
 (try simp only [cq])
 obtain ⟨bI, hbA⟩ : ∃ b, Blk.num hA = b := ⟨_, rfl⟩
 obtain ⟨W, hW⟩ : ∃ V, Blk.wld hA = V := ⟨_, rfl⟩
 simp only [Blk.num] at hbA
 simp only [Blk.wld] at hW
 first | replace hAbK := awB hW hAbK | replace hAbK := awD hW hAbK
 first | replace hAbP := awB hW hAbP | replace hAbP := awD hW hAbP
 replace HTS := PairsAt.later HTS (show Below _ _ W by rw [← hW]; first | exact (Below.refl _ _).alloc (Nat.le_refl _) _ | exact ((Below.refl _ _).alloc (Nat.le_refl _) _).drew)
 replace HTC := PairsAt.later HTC (show Below _ _ W by rw [← hW]; first | exact (Below.refl _ _).alloc (Nat.le_refl _) _ | exact ((Below.refl _ _).alloc (Nat.le_refl _) _).drew)
 rw [hW] at hH hA ⊢
 rw [hbA] at hA ⊢
 clear hW hbA
 have hAbI := hA
 clear hA
 exact X_0_1_2_3_4_10 vS vC bI bK bP W ⟨hH, hAbI, hAbK, hAbP, HTS, HTC⟩
 }
 refine arc (some 77) (fun K hK => ?_) ?_
 {
 go_simp
 (refine (kone_any _ _).mono ?_; rintro e w' ⟨rfl, hb⟩)
 (replace hAbK := hAbK.call hb)
 (replace hAbP := hAbP.call hb)
 replace HTS := PairsAt.later HTS hb
 replace HTC := PairsAt.later HTC hb
 refine hK.out _ _ ?_ ?_
 · (exact bwS hH (Nat.le_refl _) hb)
 (try clear hH); (try clear hb)
 intro hH
 clear hK K
 (try simp only [cq])
 exact X_0_1_3_4_5_10 vS vC bK bP w' ⟨hH, hAbK, hAbP, HTS, HTC⟩
 }
 exact AllReadyH.nil
 }
 }
 {
 intro vS vC bK W hall
 obtain ⟨hH, hAbK, HTS, HTC⟩ := hall
 (try dsimp only at hH)
 refine wpAnyH_ready (rs := [2, 10]) (by kernel_rfl) (by simp) ?_
 refine arc (some 74) (fun K hK => ?_) ?_
 {
 go_simp
 first | refine oA hK ?_ (fun hH hA => ?_) | refine oD hK ?_ (fun hH hA => ?_)
 · exact bwA hH (Nat.le_refl _) _
 clear hK K
 (try simp only [cq])
 obtain ⟨bI, hbA⟩ : ∃ b, Blk.num hA = b := ⟨_, rfl⟩
 obtain ⟨W, hW⟩ : ∃ V, Blk.wld hA = V := ⟨_, rfl⟩
 simp only [Blk.num] at hbA
 simp only [Blk.wld] at hW
 first | replace hAbK := awB hW hAbK | replace hAbK := awD hW hAbK
 replace HTS := PairsAt.later HTS (show Below _ _ W by rw [← hW]; first | exact (Below.refl _ _).alloc (Nat.le_refl _) _ | exact ((Below.refl _ _).alloc (Nat.le_refl _) _).drew)
 replace HTC := PairsAt.later HTC (show Below _ _ W by rw [← hW]; first | exact (Below.refl _ _).alloc (Nat.le_refl _) _ | exact ((Below.refl _ _).alloc (Nat.le_refl _) _).drew)
 rw [hW] at hH hA ⊢
 rw [hbA] at hA ⊢
 clear hW hbA
 have hAbI := hA
 clear hA
 exact X_0_1_2_3_4_5 vS vC bI bK W ⟨hH, hAbI, hAbK, HTS, HTC⟩
 }
 refine arc (some 82) (fun K hK => ?_) ?_
 {
 go_simp
 first | refine oA hK ?_ (fun hH hA => ?_) | refine oD hK ?_ (fun hH hA => ?_)
 · exact bwA hH (Nat.le_refl _) _
 clear hK K
 (try simp only [cq])
 obtain ⟨bP, hbA⟩ : ∃ b, Blk.num hA = b := ⟨_, rfl⟩
 obtain ⟨W, hW⟩ : ∃ V, Blk.wld hA = V := ⟨_, rfl⟩
 simp only [Blk.num] at hbA
 simp only [Blk.wld] at hW
 first | replace hAbK := awB hW hAbK | replace hAbK := awD hW hAbK
 replace HTS := PairsAt.later HTS (show Below _ _ W by rw [← hW]; first | exact (Below.refl _ _).alloc (Nat.le_refl _) _ | exact ((Below.refl _ _).alloc (Nat.le_refl _) _).drew)
 replace HTC := PairsAt.later HTC (show Below _ _ W by rw [← hW]; first | exact (Below.refl _ _).alloc (Nat.le_refl _) _ | exact ((Below.refl _ _).alloc (Nat.le_refl _) _).drew)
 rw [hW] at hH hA ⊢
 rw [hbA] at hA ⊢
 clear hW hbA
 have hAbP := hA
 clear hA
 exact X_0_1_3_4_5_10 vS vC bK bP W ⟨hH, hAbK, hAbP, HTS, HTC⟩
 }
 exact AllReadyH.nil
 }
 }
 {
 intro vS vC bI bP W hall
 obtain ⟨hH, hAbI, hAbP, HTS, HTC⟩ := hall
 (try dsimp only at hH)
 refine wpAnyH_ready (rs := [4, 5]) (by kernel_rfl) (by simp) ?_
 refine arc (some 76) (fun K hK => ?_) ?_
 {
 go_simp
 first | refine oA hK ?_ (fun hH hA => ?_) | refine oD hK ?_ (fun hH hA => ?_)
 · exact bwA hH (Nat.le_refl _) _
 clear hK K
 (try simp only [cq])
 obtain ⟨bK, hbA⟩ : ∃ b, Blk.num hA = b := ⟨_, rfl⟩
 obtain ⟨W, hW⟩ : ∃ V, Blk.wld hA = V := ⟨_, rfl⟩
 simp only [Blk.num] at hbA
 simp only [Blk.wld] at hW
 first | replace hAbI := awB hW hAbI | replace hAbI := awD hW hAbI
 first | replace hAbP := awB hW hAbP | replace hAbP := awD hW hAbP
 replace HTS := PairsAt.later HTS (show Below _ _ W by rw [← hW]; first | exact (Below.refl _ _).alloc (Nat.le_refl _) _ | exact ((Below.refl _ _).alloc (Nat.le_refl _) _).drew)
 replace HTC := PairsAt.later HTC (show Below _ _ W by rw [← hW]; first | exact (Below.refl _ _).alloc (Nat.le_refl _) _ | exact ((Below.refl _ _).alloc (Nat.le_refl _) _).drew)
 rw [hW] at hH hA ⊢
 rw [hbA] at hA ⊢
 clear hW hbA
 have hAbK := hA
 clear hA
 exact X_0_1_2_3_4_10 vS vC bI bK bP W ⟨hH, hAbI, hAbK, hAbP, HTS, HTC⟩
 }
 refine arc (some 77) (fun K hK => ?_) ?_
 {
 go_simp
 (refine (kone_any _ _).mono ?_; rintro e w' ⟨rfl, hb⟩)
 (replace hAbI := hAbI.call hb)
 (replace hAbP := hAbP.call hb)
 replace HTS := PairsAt.later HTS hb
 replace HTC := PairsAt.later HTC hb
 refine hK.out _ _ ?_ ?_
 · (exact bwS hH (Nat.le_refl _) hb)
 (try clear hH); (try clear hb)
 intro hH
 clear hK K
 (try simp only [cq])
 exact X_0_1_2_3_5_10 vS vC bI bP w' ⟨hH, hAbI, hAbP, HTS, HTC⟩
 }
 exact AllReadyH.nil
 }
 }
 {
 intro vS vC bI W hall
 obtain ⟨hH, hAbI, HTS, HTC⟩ := hall
 (try dsimp only at hH)
 refine wpAnyH_ready (rs := [4, 10]) (by kernel_rfl) (by simp) ?_
 refine arc (some 76) (fun K hK => ?_) ?_
 {
 go_simp
 first | refine oA hK ?_ (fun hH hA => ?_) | refine oD hK ?_ (fun hH hA => ?_)
 · exact bwA hH (Nat.le_refl _) _
 clear hK K
 (try simp only [cq])
 obtain ⟨bK, hbA⟩ : ∃ b, Blk.num hA = b := ⟨_, rfl⟩
 obtain ⟨W, hW⟩ : ∃ V, Blk.wld hA = V := ⟨_, rfl⟩
 simp only [Blk.num] at hbA
 simp only [Blk.wld] at hW
 first | replace hAbI := awB hW hAbI | replace hAbI := awD hW hAbI
 replace HTS := PairsAt.later HTS (show Below _ _ W by rw [← hW]; first | exact (Below.refl _ _).alloc (Nat.le_refl _) _ | exact ((Below.refl _ _).alloc (Nat.le_refl _) _).drew)
 replace HTC := PairsAt.later HTC (show Below _ _ W by rw [← hW]; first | exact (Below.refl _ _).alloc (Nat.le_refl _) _ | exact ((Below.refl _ _).alloc (Nat.le_refl _) _).drew)
 rw [hW] at hH hA ⊢
 rw [hbA] at hA ⊢
 clear hW hbA
 have hAbK := hA
 clear hA
 exact X_0_1_2_3_4_5 vS vC bI bK W ⟨hH, hAbI, hAbK, HTS, HTC⟩
 }
 refine arc (some 82) (fun K hK => ?_) ?_
 {
 go_simp
 first | refine oA hK ?_ (fun hH hA => ?_) | refine oD hK ?_ (fun hH hA => ?_)
 · exact bwA hH (Nat.le_refl _) _
 clear hK K
 (try simp only [cq])
 obtain ⟨bP, hbA⟩ : ∃ b, Blk.num hA = b := ⟨_, rfl⟩
 obtain ⟨W, hW⟩ : ∃ V, Blk.wld hA = V := ⟨_, rfl⟩
 simp only [Blk.num] at hbA
 simp only [Blk.wld] at hW
 first | replace hAbI := awB hW hAbI | replace hAbI := awD hW hAbI
 replace HTS := PairsAt.later HTS (show Below _ _ W by rw [← hW]; first | exact (Below.refl _ _).alloc (Nat.le_refl _) _ | exact ((Below.refl _ _).alloc (Nat.le_refl _) _).drew)
 replace HTC := PairsAt.later HTC (show Below _ _ W by rw [← hW]; first | exact (Below.refl _ _).alloc (Nat.le_refl _) _ | exact ((Below.refl _ _).alloc (Nat.le_refl _) _).drew)
 rw [hW] at hH hA ⊢
 rw [hbA] at hA ⊢
 clear hW hbA
 have hAbP := hA
 clear hA
 exact X_0_1_2_3_5_10 vS vC bI bP W ⟨hH, hAbI, hAbP, HTS, HTC⟩
 }
 exact AllReadyH.nil
 }
 }
 {
 intro vS vC bI bK W hall
 obtain ⟨hH, hAbI, hAbK, HTS, HTC⟩ := hall
 (try dsimp only at hH)
 refine wpAnyH_ready (rs := [5, 10]) (by kernel_rfl) (by simp) ?_
 refine arc (some 77) (fun K hK => ?_) ?_
 {
 go_simp
 (refine (kone_any _ _).mono ?_; rintro e w' ⟨rfl, hb⟩)
 (replace hAbI := hAbI.call hb)
 (replace hAbK := hAbK.call hb)
 replace HTS := PairsAt.later HTS hb
 replace HTC := PairsAt.later HTC hb
 refine hK.out _ _ ?_ ?_
 · (exact bwS hH (Nat.le_refl _) hb)
 (try clear hH); (try clear hb)
 intro hH
 clear hK K
 (try simp only [cq])
 exact X_0_1_2_3_4_5 vS vC bI bK w' ⟨hH, hAbI, hAbK, HTS, HTC⟩
 }
 refine arc (some 82) (fun K hK => ?_) ?_
 {
 go_simp
 first | refine oA hK ?_ (fun hH hA => ?_) | refine oD hK ?_ (fun hH hA => ?_)
 · exact bwA hH (Nat.le_refl _) _
 clear hK K
 (try simp only [cq])
 obtain ⟨bP, hbA⟩ : ∃ b, Blk.num hA = b := ⟨_, rfl⟩
 obtain ⟨W, hW⟩ : ∃ V, Blk.wld hA = V := ⟨_, rfl⟩
 simp only [Blk.num] at hbA
 simp only [Blk.wld] at hW
 first | replace hAbI := awB hW hAbI | replace hAbI := awD hW hAbI
 first | replace hAbK := awB hW hAbK | replace hAbK := awD hW hAbK
 replace HTS := PairsAt.later HTS (show Below _ _ W by rw [← hW]; first | exact (Below.refl _ _).alloc (Nat.le_refl _) _ | exact ((Below.refl _ _).alloc (Nat.le_refl _) _).drew)
 replace HTC := PairsAt.later HTC (show Below _ _ W by rw [← hW]; first | exact (Below.refl _ _).alloc (Nat.le_refl _) _ | exact ((Below.refl _ _).alloc (Nat.le_refl _) _).drew)
 rw [hW] at hH hA ⊢
 rw [hbA] at hA ⊢
 clear hW hbA
 have hAbP := hA
 clear hA
 exact X_0_1_2_3_4_10 vS vC bI bK bP W ⟨hH, hAbI, hAbK, hAbP, HTS, HTC⟩
 }
 exact AllReadyH.nil
 }
 }
 {
 intro vS vC vL bP W hall
 obtain ⟨hH, hAbP, HTS, HTC, HLD⟩ := hall
 (try dsimp only at hH)
 refine wpAnyH_ready (rs := [2, 4]) (by kernel_rfl) (by simp) ?_
 refine arc (some 74) (fun K hK => ?_) ?_
 {
 go_simp
 first | refine oA hK ?_ (fun hH hA => ?_) | refine oD hK ?_ (fun hH hA => ?_)
 · exact bwA hH (Nat.le_refl _) _
 clear hK K
 (try simp only [cq])
 obtain ⟨bI, hbA⟩ : ∃ b, Blk.num hA = b := ⟨_, rfl⟩
 obtain ⟨W, hW⟩ : ∃ V, Blk.wld hA = V := ⟨_, rfl⟩
 simp only [Blk.num] at hbA
 simp only [Blk.wld] at hW
 first | replace hAbP := awB hW hAbP | replace hAbP := awD hW hAbP
 replace HTS := PairsAt.later HTS (show Below _ _ W by rw [← hW]; first | exact (Below.refl _ _).alloc (Nat.le_refl _) _ | exact ((Below.refl _ _).alloc (Nat.le_refl _) _).drew)
 replace HTC := PairsAt.later HTC (show Below _ _ W by rw [← hW]; first | exact (Below.refl _ _).alloc (Nat.le_refl _) _ | exact ((Below.refl _ _).alloc (Nat.le_refl _) _).drew)
 replace HLD := LoadsAt.later HLD (show Below _ _ W by rw [← hW]; first | exact (Below.refl _ _).alloc (Nat.le_refl _) _ | exact ((Below.refl _ _).alloc (Nat.le_refl _) _).drew)
 rw [hW] at hH hA ⊢
 rw [hbA] at hA ⊢
 clear hW hbA
 have hAbI := hA
 clear hA
 exact X_0_1_2_3_5_10_11 vS vC vL bI bP W ⟨hH, hAbI, hAbP, HTS, HTC, HLD⟩
 }
 refine arc (some 76) (fun K hK => ?_) ?_
 {
 go_simp
 first | refine oA hK ?_ (fun hH hA => ?_) | refine oD hK ?_ (fun hH hA => ?_)
 · exact bwA hH (Nat.le_refl _) _
 clear hK K
 (try simp only [cq])
 obtain ⟨bK, hbA⟩ : ∃ b, Blk.num hA = b := ⟨_, rfl⟩
 obtain ⟨W, hW⟩ : ∃ V, Blk.wld hA = V := ⟨_, rfl⟩
 simp only [Blk.num] at hbA
 simp only [Blk.wld] at hW
 first | replace hAbP := awB hW hAbP | replace hAbP := awD hW hAbP
 replace HTS := PairsAt.later HTS (show Below _ _ W by rw [← hW]; first | exact (Below.refl _ _).alloc (Nat.le_refl _) _ | exact ((Below.refl _ _).alloc (Nat.le_refl _) _).drew)
 replace HTC := PairsAt.later HTC (show Below _ _ W by rw [← hW]; first | exact (Below.refl _ _).alloc (Nat.le_refl _) _ | exact ((Below.refl _ _).alloc (Nat.le_refl _) _).drew)
 replace HLD := LoadsAt.later HLD (show Below _ _ W by rw [← hW]; first | exact (Below.refl _ _).alloc (Nat.le_refl _) _ | exact ((Below.refl _ _).alloc (Nat.le_refl _) _).drew)
 rw [hW] at hH hA ⊢
 rw [hbA] at hA ⊢
 clear hW hbA
 have hAbK := hA
 clear hA
 exact X_0_1_3_4_5_10_11 vS vC vL bK bP W ⟨hH, hAbK, hAbP, HTS, HTC, HLD⟩
 }
 exact AllReadyH.nil
 }
 }
 {
 intro vS vC bK bP W hall
 obtain ⟨hH, hAbK, hAbP, HTS, HTC⟩ := hall
 (try dsimp only at hH)
 refine wpAnyH_ready (rs := [2, 11]) (by kernel_rfl) (by simp) ?_
 refine arc (some 74) (fun K hK => ?_) ?_
 {
 go_simp
 first | refine oA hK ?_ (fun hH hA => ?_) | refine oD hK ?_ (fun hH hA => ?_)
 · exact bwA hH (Nat.le_refl _) _
 clear hK K
 (try simp only [cq])
 obtain ⟨bI, hbA⟩ : ∃ b, Blk.num hA = b := ⟨_, rfl⟩
 obtain ⟨W, hW⟩ : ∃ V, Blk.wld hA = V := ⟨_, rfl⟩
 simp only [Blk.num] at hbA
 simp only [Blk.wld] at hW
 first | replace hAbK := awB hW hAbK | replace hAbK := awD hW hAbK
 first | replace hAbP := awB hW hAbP | replace hAbP := awD hW hAbP
 replace HTS := PairsAt.later HTS (show Below _ _ W by rw [← hW]; first | exact (Below.refl _ _).alloc (Nat.le_refl _) _ | exact ((Below.refl _ _).alloc (Nat.le_refl _) _).drew)
 replace HTC := PairsAt.later HTC (show Below _ _ W by rw [← hW]; first | exact (Below.refl _ _).alloc (Nat.le_refl _) _ | exact ((Below.refl _ _).alloc (Nat.le_refl _) _).drew)
 rw [hW] at hH hA ⊢
 rw [hbA] at hA ⊢
 clear hW hbA
 have hAbI := hA
 clear hA
 exact X_0_1_2_3_4_5_10 vS vC bI bK bP W ⟨hH, hAbI, hAbK, hAbP, HTS, HTC⟩
 }
 refine arc (some 83) (fun K hK => ?_) ?_
 {
 go_simp
 (refine (kloads_any 5000 5000 1 _ (fun _ => a) (by decide) _ (ints_b1 hAbP)).mono ?_; rintro e w' ⟨vL, rfl, HLD, hb⟩)
 (replace hAbK := hAbK.call hb)
 (replace hAbP := hAbP.call hb)
 replace HTS := PairsAt.later HTS hb
 replace HTC := PairsAt.later HTC hb
 refine hK.out _ _ ?_ ?_
 · (exact bwS hH (Nat.le_refl _) hb)
 (try clear hH); (try clear hb)
 intro hH
 clear hK K
 (try simp only [cq])
 exact X_0_1_3_4_5_10_11 vS vC vL bK bP w' ⟨hH, hAbK, hAbP, HTS, HTC, HLD⟩
 }
 exact AllReadyH.nil
 }
 }
 {
 intro vS vC bI bP W hall
 obtain ⟨hH, hAbI, hAbP, HTS, HTC⟩ := hall
 (try dsimp only at hH)
 refine wpAnyH_ready (rs := [4, 11]) (by kernel_rfl) (by simp) ?_
 refine arc (some 76) (fun K hK => ?_) ?_
 {
 go_simp
 first | refine oA hK ?_ (fun hH hA => ?_) | refine oD hK ?_ (fun hH hA => ?_)
 · exact bwA hH (Nat.le_refl _) _
 clear hK K
 (try simp only [cq])
 obtain ⟨bK, hbA⟩ : ∃ b, Blk.num hA = b := ⟨_, rfl⟩
 obtain ⟨W, hW⟩ : ∃ V, Blk.wld hA = V := ⟨_, rfl⟩
 simp only [Blk.num] at hbA
 simp only [Blk.wld] at hW
 first | replace hAbI := awB hW hAbI | replace hAbI := awD hW hAbI
 first | replace hAbP := awB hW hAbP | replace hAbP := awD hW hAbP
 replace HTS := PairsAt.later HTS (show Below _ _ W by rw [← hW]; first | exact (Below.refl _ _).alloc (Nat.le_refl _) _ | exact ((Below.refl _ _).alloc (Nat.le_refl _) _).drew)
 replace HTC := PairsAt.later HTC (show Below _ _ W by rw [← hW]; first | exact (Below.refl _ _).alloc (Nat.le_refl _) _ | exact ((Below.refl _ _).alloc (Nat.le_refl _) _).drew)
 rw [hW] at hH hA ⊢
 rw [hbA] at hA ⊢
 clear hW hbA
 have hAbK := hA
 clear hA
 exact X_0_1_2_3_4_5_10 vS vC bI bK bP W ⟨hH, hAbI, hAbK, hAbP, HTS, HTC⟩
 }
 refine arc (some 83) (fun K hK => ?_) ?_
 {
 go_simp
 (refine (kloads_any 5000 5000 1 _ (fun _ => a) (by decide) _ (ints_b1 hAbP)).mono ?_; rintro e w' ⟨vL, rfl, HLD, hb⟩)
 (replace hAbI := hAbI.call hb)
 (replace hAbP := hAbP.call hb)
 replace HTS := PairsAt.later HTS hb
 replace HTC := PairsAt.later HTC hb
 refine hK.out _ _ ?_ ?_
 · (exact bwS hH (Nat.le_refl _) hb)
 (try clear hH); (try clear hb)
 intro hH
 clear hK K
 (try simp only [cq])
 exact X_0_1_2_3_5_10_11 vS vC vL bI bP w' ⟨hH, hAbI, hAbP, HTS, HTC, HLD⟩
 }
 exact AllReadyH.nil
 }
 }
 {
 intro vS vC bI bK bP W hall
 obtain ⟨hH, hAbI, hAbK, hAbP, HTS, HTC⟩ := hall
 (try dsimp only at hH)
 refine wpAnyH_ready (rs := [5]) (by kernel_rfl) (by simp) ?_
 refine arc1 (some 77) fun K hK => ?_
 go_simp
 (refine (kone_any _ _).mono ?_; rintro e w' ⟨rfl, hb⟩)
 (replace hAbI := hAbI.call hb)
 (replace hAbK := hAbK.call hb)
 (replace hAbP := hAbP.call hb)
 replace HTS := PairsAt.later HTS hb
 replace HTC := PairsAt.later HTC hb
 refine hK.out _ _ ?_ ?_
 · (exact bwS hH (Nat.le_refl _) hb)
 (try clear hH); (try clear hb)
 intro hH
 clear hK K
 (try simp only [cq])
 exact X_0_1_2_3_4_5_10 vS vC bI bK bP w' ⟨hH, hAbI, hAbK, hAbP, HTS, HTC⟩
 }
 }
 {
 intro vS vC bI bK W hall
 obtain ⟨hH, hAbI, hAbK, HTS, HTC⟩ := hall
 (try dsimp only at hH)
 refine wpAnyH_ready (rs := [10]) (by kernel_rfl) (by simp) ?_
 refine arc1 (some 82) fun K hK => ?_
 go_simp
 first | refine oA hK ?_ (fun hH hA => ?_) | refine oD hK ?_ (fun hH hA => ?_)
 · exact bwA hH (Nat.le_refl _) _
 clear hK K
 (try simp only [cq])
 obtain ⟨bP, hbA⟩ : ∃ b, Blk.num hA = b := ⟨_, rfl⟩
 obtain ⟨W, hW⟩ : ∃ V, Blk.wld hA = V := ⟨_, rfl⟩
 simp only [Blk.num] at hbA
 simp only [Blk.wld] at hW
 first | replace hAbI := awB hW hAbI | replace hAbI := awD hW hAbI
 first | replace hAbK := awB hW hAbK | replace hAbK := awD hW hAbK
 replace HTS := PairsAt.later HTS (show Below _ _ W by rw [← hW]; first | exact (Below.refl _ _).alloc (Nat.le_refl _) _ | exact ((Below.refl _ _).alloc (Nat.le_refl _) _).drew)
 replace HTC := PairsAt.later HTC (show Below _ _ W by rw [← hW]; first | exact (Below.refl _ _).alloc (Nat.le_refl _) _ | exact ((Below.refl _ _).alloc (Nat.le_refl _) _).drew)
 rw [hW] at hH hA ⊢
 rw [hbA] at hA ⊢
 clear hW hbA
 have hAbP := hA
 clear hA
 exact X_0_1_2_3_4_5_10 vS vC bI bK bP W ⟨hH, hAbI, hAbK, hAbP, HTS, HTC⟩
 }
 }
 {
 intro vS vC vL bK bP W hall
 obtain ⟨hH, hAbK, hAbP, HTS, HTC, HLD⟩ := hall
 (try dsimp only at hH)
 refine wpAnyH_ready (rs := [2]) (by kernel_rfl) (by simp) ?_
 refine arc1 (some 74) fun K hK => ?_
 go_simp
 first | refine oA hK ?_ (fun hH hA => ?_) | refine oD hK ?_ (fun hH hA => ?_)
 · exact bwA hH (Nat.le_refl _) _
 clear hK K
 (try simp only [cq])
 obtain ⟨bI, hbA⟩ : ∃ b, Blk.num hA = b := ⟨_, rfl⟩
 obtain ⟨W, hW⟩ : ∃ V, Blk.wld hA = V := ⟨_, rfl⟩
 simp only [Blk.num] at hbA
 simp only [Blk.wld] at hW
 first | replace hAbK := awB hW hAbK | replace hAbK := awD hW hAbK
 first | replace hAbP := awB hW hAbP | replace hAbP := awD hW hAbP
 replace HTS := PairsAt.later HTS (show Below _ _ W by rw [← hW]; first | exact (Below.refl _ _).alloc (Nat.le_refl _) _ | exact ((Below.refl _ _).alloc (Nat.le_refl _) _).drew)
 replace HTC := PairsAt.later HTC (show Below _ _ W by rw [← hW]; first | exact (Below.refl _ _).alloc (Nat.le_refl _) _ | exact ((Below.refl _ _).alloc (Nat.le_refl _) _).drew)
 replace HLD := LoadsAt.later HLD (show Below _ _ W by rw [← hW]; first | exact (Below.refl _ _).alloc (Nat.le_refl _) _ | exact ((Below.refl _ _).alloc (Nat.le_refl _) _).drew)
 rw [hW] at hH hA ⊢
 rw [hbA] at hA ⊢
 clear hW hbA
 have hAbI := hA
 clear hA
 exact X_0_1_2_3_4_5_10_11 vS vC vL bI bK bP W ⟨hH, hAbI, hAbK, hAbP, HTS, HTC, HLD⟩
 }
 }
 {
 intro vS vC vL bI bP W hall
 obtain ⟨hH, hAbI, hAbP, HTS, HTC, HLD⟩ := hall
 (try dsimp only at hH)
 refine wpAnyH_ready (rs := [4]) (by kernel_rfl) (by simp) ?_
 refine arc1 (some 76) fun K hK => ?_
 go_simp
 first | refine oA hK ?_ (fun hH hA => ?_) | refine oD hK ?_ (fun hH hA => ?_)
 · exact bwA hH (Nat.le_refl _) _
 clear hK K
 (try simp only [cq])
 obtain ⟨bK, hbA⟩ : ∃ b, Blk.num hA = b := ⟨_, rfl⟩
 obtain ⟨W, hW⟩ : ∃ V, Blk.wld hA = V := ⟨_, rfl⟩
 simp only [Blk.num] at hbA
 simp only [Blk.wld] at hW
 first | replace hAbI := awB hW hAbI | replace hAbI := awD hW hAbI
 first | replace hAbP := awB hW hAbP | replace hAbP := awD hW hAbP
 replace HTS := PairsAt.later HTS (show Below _ _ W by rw [← hW]; first | exact (Below.refl _ _).alloc (Nat.le_refl _) _ | exact ((Below.refl _ _).alloc (Nat.le_refl _) _).drew)
 replace HTC := PairsAt.later HTC (show Below _ _ W by rw [← hW]; first | exact (Below.refl _ _).alloc (Nat.le_refl _) _ | exact ((Below.refl _ _).alloc (Nat.le_refl _) _).drew)
 replace HLD := LoadsAt.later HLD (show Below _ _ W by rw [← hW]; first | exact (Below.refl _ _).alloc (Nat.le_refl _) _ | exact ((Below.refl _ _).alloc (Nat.le_refl _) _).drew)
 rw [hW] at hH hA ⊢
 rw [hbA] at hA ⊢
 clear hW hbA
 have hAbK := hA
 clear hA
 exact X_0_1_2_3_4_5_10_11 vS vC vL bI bK bP W ⟨hH, hAbI, hAbK, hAbP, HTS, HTC, HLD⟩
 }
 }
 {
 intro vS vC bI bK bP W hall
 obtain ⟨hH, hAbI, hAbK, hAbP, HTS, HTC⟩ := hall
 (try dsimp only at hH)
 refine wpAnyH_ready (rs := [11]) (by kernel_rfl) (by simp) ?_
 refine arc1 (some 83) fun K hK => ?_
 go_simp
 (refine (kloads_any 5000 5000 1 _ (fun _ => a) (by decide) _ (ints_b1 hAbP)).mono ?_; rintro e w' ⟨vL, rfl, HLD, hb⟩)
 (replace hAbI := hAbI.call hb)
 (replace hAbK := hAbK.call hb)
 (replace hAbP := hAbP.call hb)
 replace HTS := PairsAt.later HTS hb
 replace HTC := PairsAt.later HTC hb
 refine hK.out _ _ ?_ ?_
 · (exact bwS hH (Nat.le_refl _) hb)
 (try clear hH); (try clear hb)
 intro hH
 clear hK K
 (try simp only [cq])
 exact X_0_1_2_3_4_5_10_11 vS vC vL bI bK bP w' ⟨hH, hAbI, hAbK, hAbP, HTS, HTC, HLD⟩
 }
 }
 {
 intro vS vC vL bI bK bP W hall
 obtain ⟨hH, hAbI, hAbK, hAbP, HTS, HTC, HLD⟩ := hall
 (try dsimp only at hH)
 refine wpAnyH_ready (rs := [12]) (by kernel_rfl) (by simp) ?_
 refine arc1 (some 84) fun K hK => ?_
 go_simp
 (refine (HG.out _ _ _ _ _ _ hH HTS HTC (pairs_c1 hAbI) (pairs_11 hAbK) HLD).mono ?_; rintro e w' ⟨uu, rfl, HUU, hb⟩)
 (replace hAbI := hAbI.call hb)
 (replace hAbK := hAbK.call hb)
 (replace hAbP := hAbP.call hb)
 replace HTS := PairsAt.later HTS hb
 replace HTC := PairsAt.later HTC hb
 replace HLD := LoadsAt.later HLD hb
 refine hK.out _ _ ?_ ?_
 · (exact bwS hH (Nat.le_refl _) hb)
 (try clear hH); (try clear hb)
 intro hH
 clear hK K
 (try simp only [cq])
 refine tkY 13 (some 71) ?_ ?_ ?_
 rotate_left
 · intro w _; go_simp; (try with_reducible rfl)
 (try simp only [cq])
 refine tkY 14 (some 85) ?_ ?_ ?_
 rotate_left
 · intro w _; go_simp; (try with_reducible rfl)
 (try simp only [cq])
 refine tkY 15 (some 86) ?_ ?_ ?_
 rotate_left
 · intro w _; go_simp; (try with_reducible rfl)
 (try simp only [cq])
 refine tkY 16 (some 9) ?_ ?_ ?_
 rotate_left
 · intro w _; go_simp; (try with_reducible rfl)
 (try simp only [cq])
 refine tkY 17 (some 10) ?_ ?_ ?_
 rotate_left
 · intro w _; go_simp; (try with_reducible rfl)
 (try simp only [cq])
 exact X_0_1_2_3_4_5_10_11_12 vS vC vL uu bI bK bP w' ⟨hH, hAbI, hAbK, hAbP, HTS, HTC, HLD, HUU⟩
 }
 }
 {
 intro vS vC vL uu bI bK bP W hall
 obtain ⟨hH, hAbI, hAbK, hAbP, HTS, HTC, HLD, HUU⟩ := hall
 (try dsimp only at hH)
 refine wpAnyH_done (by kernel_rfl) ?_ _
 (try dsimp only [Act.put])
 (try simp only [cq])
 have hB := hH
 clear hH HTS HTC HLD hAbI hAbK hAbP
 have t2 := cell_later hB H2.out
 have z2 := World.block_lt_of_cell? _ _ t2
 have HSm := Lib.hid (ksame_yes uu (.slice (some ⟨bjN, k, none⟩) 1 (3 - k)) 1 (fun _ => r) _ HUU (ints_k (by omega) t2))
 clear HUU H1 H2
 go_wp2_with fail
 clear t2 z2
 refine HSm.out.mono ?_
 rintro e w8 ⟨rfl, hb⟩
 replace hB := bwS hB (Nat.le_refl _) hb
 clear hb HSm
 go_wp2
 go_roundw
 case rel => exact ⟨k + 1, by omega, by go_num, hB⟩
 case measure => simp [intOf]; omega
 } )
        · have jB := bwS HB.out (by have := HB.out.size; omega) hB
          clear hB HRq HB
          go_wp2_with fail
          refine (kplate_any _).mono ?_
          rintro e y1 ⟨vS, vC, rfl, HTS, HTC, hb⟩
          replace jB := bwS jB (Nat.le_refl _) hb
          clear hb
          go_wp2_with fail
          refine (kone_any _ _).mono ?_
          rintro e y2 ⟨rfl, hb⟩
          replace HTS := HTS.later hb
          replace HTC := HTC.later hb
          replace jB := bwS jB (Nat.le_refl _) hb
          clear hb
          go_wp2_with fail
          refine (kspan_any _ _ _).mono ?_
          rintro e y3 ⟨rfl, hb⟩
          replace HTS := HTS.later hb
          replace HTC := HTC.later hb
          replace jB := bwS jB (Nat.le_refl _) hb
          clear hb
          go_wp2_with fail
          have jA := Blk.new y3 #[.int .i64 500, .int .i64 500, .int .i64 400, .int .i64 600] 23
          replace HTS := HTS.later ((Below.refl _ _).alloc (Nat.le_refl _) (.cells #[.int .i64 500, .int .i64 500, .int .i64 400, .int .i64 600] 23))
          replace HTC := HTC.later ((Below.refl _ _).alloc (Nat.le_refl _) (.cells #[.int .i64 500, .int .i64 500, .int .i64 400, .int .i64 600] 23))
          replace jB := bwA jB (Nat.le_refl _) (.cells #[.int .i64 500, .int .i64 500, .int .i64 400, .int .i64 600] 23)
          obtain ⟨bjA, hbjA⟩ : ∃ b, y3.heap.size = b := ⟨_, rfl⟩
          (try rw [hbjA] at jA)
          (try rw [hbjA])
          clear hbjA
          generalize (y3.alloc (.cells #[.int .i64 500, .int .i64 500, .int .i64 400, .int .i64 600] 23)) = V9 at jA  HTS HTC jB ⊢
          refine (kone_any _ _).mono ?_
          rintro e y4 ⟨rfl, hb⟩
          replace jA := jA.call hb
          replace HTS := HTS.later hb
          replace HTC := HTC.later hb
          replace jB := bwS jB (Nat.le_refl _) hb
          clear hb
          go_wp2_with fail
          have jC := Blk.new y4 #[.int .i64 150, .int .i64 150] 23
          replace jA := jA.alloc (.cells #[.int .i64 150, .int .i64 150] 23)
          replace HTS := HTS.later ((Below.refl _ _).alloc (Nat.le_refl _) (.cells #[.int .i64 150, .int .i64 150] 23))
          replace HTC := HTC.later ((Below.refl _ _).alloc (Nat.le_refl _) (.cells #[.int .i64 150, .int .i64 150] 23))
          replace jB := bwA jB (Nat.le_refl _) (.cells #[.int .i64 150, .int .i64 150] 23)
          obtain ⟨bjC, hbjC⟩ : ∃ b, y4.heap.size = b := ⟨_, rfl⟩
          (try rw [hbjC] at jC)
          (try rw [hbjC])
          clear hbjC
          generalize (y4.alloc (.cells #[.int .i64 150, .int .i64 150] 23)) = V10 at jC jA HTS HTC jB ⊢
          refine (kone_any _ _).mono ?_
          rintro e y5 ⟨rfl, hb⟩
          replace jA := jA.call hb
          replace jC := jC.call hb
          replace HTS := HTS.later hb
          replace HTC := HTC.later hb
          replace jB := bwS jB (Nat.le_refl _) hb
          clear hb
          go_wp2_with fail
          refine (kn_lane _ _ _ _ _ HTS HTC (pairs_2 jA) (pairs_11 jC)).mono ?_
          rintro e y6 ⟨vZ, rfl, HZ, hb⟩
          replace jA := jA.call hb
          replace jC := jC.call hb
          replace HTS := HTS.later hb
          replace HTC := HTC.later hb
          replace jB := bwS jB (Nat.le_refl _) hb
          clear hb
          clear jA jC HTS HTC
          go_wp2_with fail
          have jY := Blk.new y6 #[.int .i64 1, .int .i64 3] 3
          replace HZ := HZ.later ((Below.refl _ _).alloc (Nat.le_refl _) (.cells #[.int .i64 1, .int .i64 3] 3))
          replace jB := bwA jB (Nat.le_refl _) (.cells #[.int .i64 1, .int .i64 3] 3)
          obtain ⟨bjY, hbjY⟩ : ∃ b, y6.heap.size = b := ⟨_, rfl⟩
          (try rw [hbjY] at jY)
          (try rw [hbjY])
          clear hbjY
          generalize (y6.alloc (.cells #[.int .i64 1, .int .i64 3] 3)) = V11 at jY  HZ jB ⊢
          refine (ksame_yes _ _ _ _ _ HZ (ints_b2 jY)).mono ?_
          rintro e y7 ⟨rfl, hb⟩
          replace jY := jY.call hb
          replace HZ := HZ.later hb
          replace jB := bwS jB (Nat.le_refl _) hb
          clear hb
          go_wp2
          go_ret
          exact ⟨rfl, jB⟩
end Go.Proofs.Ytkkljbbgaogifaa

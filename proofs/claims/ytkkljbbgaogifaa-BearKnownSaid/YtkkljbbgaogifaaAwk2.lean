/-
  awake says yes (sastrugilaw03).
-/
import Derived.Test.YtkkljbbgaogifaaAwake
import Derived.Test.YtkkljbbgaogifaaTail
set_option linter.unusedVariables false
set_option linter.unusedSimpArgs false
namespace Go.Proofs.Ytkkljbbgaogifaa
open Go.RowKit

set_option maxRecDepth 100000 in
set_option maxHeartbeats 2000000 in
theorem ksame_yes (u v : Value) (n : Nat) (x : Nat → Int) (w : World) (hu : IntsAt w u n x) (hv : IntsAt w v n x) :
    Calls Try.prog 37 #[u, v] w fun e w' => e = .returned (.bool true) ∧ Below w.heap.size w w' := by
  obtain ⟨aU, cU, rfl, hU1, hU2, hU3⟩ := hu
  obtain ⟨aV, cV, rfl, hV1, hV2, hV3⟩ := hv
  have HU := Lib.hid hU3
  have HV := Lib.hid hV3
  clear hU3 hV3
  go_enter Try.func37, Try.ntmps37
  go_wp2_with fail
  go_loopw [5] (fun i wr => ∃ k : Nat, k ≤ n ∧ i = .int .i64 k ∧ Below w.heap.size w wr) (fun i _ => n - (intOf i).toNat)
  case atStart => exact ⟨0, Nat.zero_le _, rfl, Below.refl _ _⟩
  case round =>
    obtain ⟨k, hk, rfl, hB⟩ := hrel
    by_cases hlt2 : k < n
    · obtain ⟨b, o, ha, hc⟩ := HU.out (by omega)
      subst ha
      obtain ⟨b2, o2, ha2, hc2⟩ := HV.out (by omega)
      subst ha2
      have a0 := cell_later hB (hc k hlt2)
      have a1 := cell_later hB (hc2 k hlt2)
      clear hc hc2 HU HV
      have z0 := World.block_lt_of_cell? _ _ a0
      have z1 := World.block_lt_of_cell? _ _ a1
      go_upto_region 6 with fail
      refine region_still (by kernel_rfl) (by kernel_rfl) (fun U hU => ?_)
      replace hB := hB.drew
      have b0 : U.cell? ⟨b, o + k, none⟩ = some (.int .i64 (x k)) := by rw [← hU]; exact a0
      have b1 : U.cell? ⟨b2, o2 + k, none⟩ = some (.int .i64 (x k)) := by rw [← hU]; exact a1
      have y0 := World.block_lt_of_cell? _ _ b0
      have y1 := World.block_lt_of_cell? _ _ b1
      rw [hU] at hB
      clear hU a0 a1 z0 z1
      repeat still_step
      refine wpStill_nil ?_
      go_wp2
      go_roundw
      case rel => exact ⟨k + 1, by omega, by go_num, hB⟩
      case measure => simp [intOf]; omega
    · go_wp2
      go_ret
      exact ⟨rfl, hB⟩

theorem ints2 {W : World} {b : Nat} {t : TypeId} {a c : Int} (h : Blk W b #[.int .i64 a, .int .i64 c] t) : IntsAt W (.slice (some ⟨b, 0, none⟩) 2 2) 2 (fun i => if i = 0 then a else c) := by
  refine ⟨_, 2, rfl, by decide, by decide, fun _ => ⟨b, 0, rfl, fun i hi => ?_⟩⟩
  match i, hi with
  | 0, _ => exact h.cell 0 rfl
  | 1, _ => exact h.cell 1 rfl
theorem pairs1 {W : World} {b : Nat} {t : TypeId} {a c : Int} (h : Blk W b #[.int .i64 a, .int .i64 c] t) : PairsAt W (.slice (some ⟨b, 0, none⟩) 1 1) 1 (fun _ => a) (fun _ => c) := by
  refine ⟨_, 1, rfl, by decide, by decide, fun _ => ⟨b, 0, rfl, fun i hi => ?_⟩⟩
  match i, hi with
  | 0, _ => exact ⟨h.cell 0 rfl, h.cell 1 rfl⟩
theorem pairs0 (W : World) (A B : Nat → Int) : PairsAt W (.slice none 0 0) 0 A B := ⟨none, 0, rfl, by decide, by decide, fun h => by omega⟩

set_option maxRecDepth 100000 in
set_option maxHeartbeats 8000000 in
theorem awake_any (w : World) : Calls Try.prog 18 #[] w fun e w' => e = .returned (.bool true) ∧ Below w.heap.size w w' := by
  go_enter Try.func18, Try.ntmps18
  go_wp2_with fail
  refine (kplate_any _).mono ?_
  rintro e w1 ⟨vS, vC, rfl, hS, hC, jB⟩
  go_wp2_with fail
  refine (bears_valid pl0 pl0_ok vS vC 500 60 (by decide) (by decide) _ hS hC).mono ?_
  rw [show limV pl0 false 500 60 / 1000000000000 = 6400 by rw [lim0]; decide]
  rintro e w2 ⟨rfl, hb⟩
  clear hS hC
  replace jB := bwS jB (Nat.le_refl _) hb
  clear hb
  go_wp2_with fail
  refine (kplate_any _).mono ?_
  rintro e w3 ⟨uS, uC, rfl, hS, hC, hb⟩
  replace jB := bwS jB (Nat.le_refl _) hb
  clear hb
  obtain ⟨aS, cS, rfl, _, _, _⟩ := id hS
  obtain ⟨aC, cC, rfl, _, _, _⟩ := id hC
  go_wp2_with fail
  refine (kone_any _ _).mono ?_
  rintro e w4 ⟨rfl, hb⟩
  replace hS := hS.later hb
  replace hC := hC.later hb
  replace jB := bwS jB (Nat.le_refl _) hb
  clear hb
  have jI := Blk.new w4 #[.int .i64 500, .int .i64 500] 23
  have hb : Below w4.heap.size w4 (w4.alloc (.cells #[.int .i64 500, .int .i64 500] 23)) := by (repeat (first | exact Below.refl _ _ | assumption | refine Below.drew ?_ | refine Below.drewN ?_ _ | refine blT ?_ | refine blU ?_))
  replace hS := hS.later hb
  replace hC := hC.later hb
  replace jB := bwS jB (Nat.le_refl _) hb
  clear hb
  go_wp2_with fail
  refine (kone_any _ _).mono ?_
  rintro e w5 ⟨rfl, hb⟩
  replace hS := hS.later hb
  replace hC := hC.later hb
  replace jI := jI.call hb
  replace jB := bwS jB (Nat.le_refl _) hb
  clear hb
  have jN := Blk.new w5 #[.int .i64 10, .int .i64 29] 3
  have hb : Below w5.heap.size w5 (w5.alloc (.cells #[.int .i64 10, .int .i64 29] 3)) := by (repeat (first | exact Below.refl _ _ | assumption | refine Below.drew ?_ | refine Below.drewN ?_ _ | refine blT ?_ | refine blU ?_))
  replace hS := hS.later hb
  replace hC := hC.later hb
  replace jI := jI.call hb
  replace jB := bwS jB (Nat.le_refl _) hb
  clear hb
  go_wp2_with fail
  refine (kloads_any 8000 8000 2 _ (fun i => if i = 0 then 10 else 29) (by decide) _ (ints2 jN)).mono ?_
  rintro e w6 ⟨vL, rfl, hL, hb⟩
  replace hS := hS.later hb
  replace hC := hC.later hb
  replace jI := jI.call hb
  replace jB := bwS jB (Nat.le_refl _) hb
  clear hb jN
  have hL2 : LoadsAt w6 vL 2 L2 := hL
  obtain ⟨aL, cL, rfl, _, _, _⟩ := hL
  go_wp2_with fail
  refine (holds_valid pl0_ok (ni := 1) (I0 := fun _ => 500) (I1 := fun _ => 500) (nc := 0) (C0 := fun _ => 0) (C1 := fun _ => 0) (n := 2) (L := L2) (by decide) (fun i hi => by simp) (by decide) (fun i hi => by omega) (by decide) (fun i hi => by
    match i, hi with
    | 0, _ => exact ⟨by decide, by decide, by decide, by decide, by decide, by decide, by decide⟩
    | 1, _ => exact ⟨by decide, by decide, by decide, by decide, by decide, by decide, by decide⟩) _ _ _ _ _ _ hS hC (pairs1 jI) (pairs0 _ _ _) hL2).mono ?_
  rintro e w7 ⟨vR, rfl, hR, hb⟩
  replace jB := bwS jB (Nat.le_refl _) hb
  clear hb hS hC jI hL2
  have hR2 : IntsAt w7 vR 2 (fun i => if i = 0 then 2 else 2) := by
    have q := ints_of_row hR
    have e0 := verd2_0
    have e1 := verd2_1
    obtain ⟨a, cap, hv, h1, h2, h3⟩ := q
    refine ⟨a, cap, hv, h1, h2, fun h0 => ?_⟩
    obtain ⟨b, o, ha, hc⟩ := h3 h0
    refine ⟨b, o, ha, fun i hi => ?_⟩
    match i, hi with
    | 0, _ => exact (hc 0 (by decide)).trans (congrArg (fun z => some (Value.int .i64 z)) e0)
    | 1, _ => exact (hc 1 (by decide)).trans (congrArg (fun z => some (Value.int .i64 z)) e1)
  clear hR
  obtain ⟨aR, cR, rfl, _, _, _⟩ := id hR2
  go_wp2_with fail
  refine (kplate_any _).mono ?_
  rintro e w8 ⟨tS, tC, rfl, hS, hC, hb⟩
  replace hR2 := hR2.later hb
  replace jB := bwS jB (Nat.le_refl _) hb
  clear hb
  obtain ⟨aS2, cS2, rfl, _, _, _⟩ := id hS
  obtain ⟨aC2, cC2, rfl, _, _, _⟩ := id hC
  go_wp2_with fail
  refine (kone_any _ _).mono ?_
  rintro e w9 ⟨rfl, hb⟩
  replace hS := hS.later hb
  replace hC := hC.later hb
  replace hR2 := hR2.later hb
  replace jB := bwS jB (Nat.le_refl _) hb
  clear hb
  go_wp2_with fail
  refine (speed_never _ _ _ hS hC).mono ?_
  rintro e w10 ⟨rfl, hb⟩
  clear hS hC
  replace hR2 := hR2.later hb
  replace jB := bwS jB (Nat.le_refl _) hb
  clear hb
  have jT := Blk.new w10 #[.int .i64 2, .int .i64 2] 3
  have hb : Below w10.heap.size w10 (w10.alloc (.cells #[.int .i64 2, .int .i64 2] 3)) := by (repeat (first | exact Below.refl _ _ | assumption | refine Below.drew ?_ | refine Below.drewN ?_ _ | refine blT ?_ | refine blU ?_))
  replace hR2 := hR2.later hb
  replace jB := bwS jB (Nat.le_refl _) hb
  clear hb
  have HSm := Lib.hid (ksame_yes _ _ 2 _ _ hR2 (ints2 jT))
  clear hR2 jT
  go_wp2_with fail
  refine HSm.out.mono ?_
  rintro e w11 ⟨rfl, hb⟩
  replace jB := bwS jB (Nat.le_refl _) hb
  clear hb HSm
  go_wp2
  go_ret
  exact ⟨rfl, jB⟩
end Go.Proofs.Ytkkljbbgaogifaa

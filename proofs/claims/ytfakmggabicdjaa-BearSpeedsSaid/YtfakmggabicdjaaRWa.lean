/-
  The reference's waves: band, Critical, critical where all is valid; checkWater, Speed, Speeds, whatever comes in.
-/
import Derived.Test.YtfakmggabicdjaaTail
import Derived.Test.YtfakmggabicdjaaRB2
import Derived.Test.YtfakmggabicdjaaSpR
set_option linter.unusedVariables false
set_option linter.unusedSimpArgs false
namespace Go.Proofs.Ytfakmggabicdjaa
open Go.RowKit

set_option maxRecDepth 100000 in
set_option maxHeartbeats 4000000 in
theorem rband_any (p : Pl) (hp : p.Ok) (vS vC : Value) (shore : Int) (w : World) (hS : TabAt w vS p.S) (hC : TabAt w vC p.C) :
    Calls Try.prog 148 #[.agg #[.int .i64 p.s0, .int .i64 p.s1, vS, vC, .int .i64 p.ne, .int .i64 p.ed, .int .i64 p.gr, .int .i64 p.lo, .int .i64 p.hi, .int .i64 p.sh, .int .i64 p.wi], .int .i64 shore] w fun e w' => e = .returned (.tuple #[.int .i64 (loB p shore), .int .i64 (hiB p shore)]) ∧ Below w.heap.size w w' := by
  obtain ⟨aS, cS, rfl, _, _, _⟩ := hS
  obtain ⟨aC, cC, rfl, _, _, _⟩ := hC
  have jP := Blk.new w #[.int .i64 p.s0, .int .i64 p.s1, (.slice aS p.S.n cS), (.slice aC p.C.n cC), .int .i64 p.ne, .int .i64 p.ed, .int .i64 p.gr, .int .i64 p.lo, .int .i64 p.hi, .int .i64 p.sh, .int .i64 p.wi] 26
  have jB : Below w.heap.size w (w.alloc (.cells #[.int .i64 p.s0, .int .i64 p.s1, (.slice aS p.S.n cS), (.slice aC p.C.n cC), .int .i64 p.ne, .int .i64 p.ed, .int .i64 p.gr, .int .i64 p.lo, .int .i64 p.hi, .int .i64 p.sh, .int .i64 p.wi] 26)) := by (repeat (first | exact Below.refl _ _ | assumption | refine Below.drew ?_ | refine Below.drewN ?_ _ | refine blT ?_ | refine blU ?_))
  by_cases hs : p.sh ≤ shore
  · rw [show loB p shore = p.lo from if_pos hs, show hiB p shore = p.hi from if_pos hs]
    obtain ⟨c0, c1, c2, c3, c4, c5, c6, c7, c8, c9, c10⟩ := jP.c11
    have zP := jP.lt
    clear hp
    go_enter Try.func148, Try.ntmps148
    go_upto_region 2 with fail
    refine wp_region_held_drew (S := (fun v => Blk v w.heap.size #[.int .i64 p.s0, .int .i64 p.s1, (.slice aS p.S.n cS), (.slice aC p.C.n cC), .int .i64 p.ne, .int .i64 p.ed, .int .i64 p.gr, .int .i64 p.lo, .int .i64 p.hi, .int .i64 p.sh, .int .i64 p.wi] 26 ∧ Below w.heap.size w v)) (by kernel_rfl) ?_ (fun hH => ?_)
    · (try dsimp only); (exact ⟨jP.drew, jB.drew⟩)
    refine tkY 0 (some 10) ?_ ?_ ?_
    rotate_left
    · intro w hS0; (try dsimp only at hS0); obtain ⟨kP, _⟩ := hS0; obtain ⟨c0, c1, c2, c3, c4, c5, c6, c7, c8, c9, c10⟩ := kP.c11; have y0 := kP.lt;go_simp; (try with_reducible rfl)
    (try simp only [cq])
    refine tkY 1 (some 11) ?_ ?_ ?_
    rotate_left
    · intro w hS0; (try dsimp only at hS0); obtain ⟨kP, _⟩ := hS0; obtain ⟨c0, c1, c2, c3, c4, c5, c6, c7, c8, c9, c10⟩ := kP.c11; have y0 := kP.lt;go_simp; (try with_reducible rfl)
    (try simp only [cq])
    refine tkY 2 (some 12) ?_ ?_ ?_
    rotate_left
    · intro w hS0; (try dsimp only at hS0); obtain ⟨kP, _⟩ := hS0; obtain ⟨c0, c1, c2, c3, c4, c5, c6, c7, c8, c9, c10⟩ := kP.c11; have y0 := kP.lt;go_simp; (try with_reducible rfl)
    (try simp only [cq])
    refine tkY 3 (some 13) ?_ ?_ ?_
    rotate_left
    · intro w hS0; (try dsimp only at hS0); obtain ⟨kP, _⟩ := hS0; obtain ⟨c0, c1, c2, c3, c4, c5, c6, c7, c8, c9, c10⟩ := kP.c11; have y0 := kP.lt;go_simp; (try with_reducible rfl)
    (try simp only [cq])
    refine tkY 4 (some 4) ?_ ?_ ?_
    rotate_left
    · intro w _; go_simp; (try with_reducible rfl)
    (try simp only [cq])
    refine tkY 5 (some 5) ?_ ?_ ?_
    rotate_left
    · intro w _; go_simp; (try with_reducible rfl)
    (try simp only [cq])
    refine wpAnyH_done (by kernel_rfl) ?_ _
    (try dsimp only [Act.put])
    (try simp only [cq])
    clear jP jB
    obtain ⟨_, jB⟩ := hH
    go_wp2
    exact bodyPost_ret (v := .tuple #[.int .i64 p.lo, .int .i64 p.hi]) (by simp [results, Try.results148, go_sem]) rfl ⟨rfl, jB⟩
  · have lo0 := hp.lo0
    have loh := hp.loh
    have hi1 := hp.hi1
    have wi0 := hp.wi0
    have wi1 := hp.wi1
    have a0 := Int.mul_nonneg (show 0 ≤ p.lo by omega) (show 0 ≤ 1000000 - p.wi by omega)
    have a1 := Int.mul_le_mul_of_nonneg_left (show 1000000 - p.wi ≤ 1000000 by omega) (show 0 ≤ p.lo by omega)
    have b0 := Int.mul_nonneg (show 0 ≤ p.hi by omega) (show 0 ≤ 1000000 + p.wi by omega)
    have b1 := Int.mul_le_mul_of_nonneg_left (show 1000000 + p.wi ≤ 2000000 by omega) (show 0 ≤ p.hi by omega)
    obtain ⟨lo, hlo⟩ : ∃ lo, loB p shore = lo := ⟨_, rfl⟩
    obtain ⟨hi, hhi⟩ : ∃ hi, hiB p shore = hi := ⟨_, rfl⟩
    have hlo2 : p.lo * (1000000 - p.wi) / 1000000 = lo := by rw [← hlo]; exact (if_neg hs).symm
    have hhi2 : (p.hi * (1000000 + p.wi) + 1000000 - 1) / 1000000 = hi := by rw [← hhi]; exact (if_neg hs).symm
    rw [hlo, hhi]
    have e1 : IntKind.i64.wrap (1000000 - p.wi) = 1000000 - p.wi := IntWalk.i64_in _ (by omega)
    have e2 : IntKind.i64.wrap (p.lo * (1000000 - p.wi)) = p.lo * (1000000 - p.wi) := IntWalk.i64_in _ (by omega)
    have e3 : IntKind.i64.wrap ((p.lo * (1000000 - p.wi)).tdiv 1000000) = lo := by rw [Int.tdiv_eq_ediv_of_nonneg a0, hlo2]; exact IntWalk.i64_in _ (by omega)
    have e4 : IntKind.i64.wrap (1000000 + p.wi) = 1000000 + p.wi := IntWalk.i64_in _ (by omega)
    have e5 : IntKind.i64.wrap (p.hi * (1000000 + p.wi)) = p.hi * (1000000 + p.wi) := IntWalk.i64_in _ (by omega)
    have e6 : IntKind.i64.wrap (p.hi * (1000000 + p.wi) + 1000000) = p.hi * (1000000 + p.wi) + 1000000 := IntWalk.i64_in _ (by omega)
    have e7 : IntKind.i64.wrap (p.hi * (1000000 + p.wi) + 1000000 - 1) = p.hi * (1000000 + p.wi) + 1000000 - 1 := IntWalk.i64_in _ (by omega)
    have e8 : IntKind.i64.wrap ((p.hi * (1000000 + p.wi) + 1000000 - 1).tdiv 1000000) = hi := by rw [Int.tdiv_eq_ediv_of_nonneg (by omega), hhi2]; exact IntWalk.i64_in _ (by omega)
    have hs2 : shore < p.sh := by omega
    clear a0 a1 b0 b1 lo0 loh hi1 wi0 wi1 hlo hhi hlo2 hhi2 hp
    obtain ⟨c0, c1, c2, c3, c4, c5, c6, c7, c8, c9, c10⟩ := jP.c11
    have zP := jP.lt
    go_enter Try.func148, Try.ntmps148
    go_upto_region 3 with fail
    refine wp_region_held_drew (S := (fun v => Blk v w.heap.size #[.int .i64 p.s0, .int .i64 p.s1, (.slice aS p.S.n cS), (.slice aC p.C.n cC), .int .i64 p.ne, .int .i64 p.ed, .int .i64 p.gr, .int .i64 p.lo, .int .i64 p.hi, .int .i64 p.sh, .int .i64 p.wi] 26 ∧ Below w.heap.size w v)) (by kernel_rfl) ?_ (fun hH => ?_)
    · (try dsimp only); (exact ⟨jP.drew, jB.drew⟩)
    refine tkY 0 (some 14) ?_ ?_ ?_
    rotate_left
    · intro w hS0; (try dsimp only at hS0); obtain ⟨kP, _⟩ := hS0; obtain ⟨c0, c1, c2, c3, c4, c5, c6, c7, c8, c9, c10⟩ := kP.c11; have y0 := kP.lt;go_simp; (try with_reducible rfl)
    (try simp only [cq])
    refine tkY 1 (some 15) ?_ ?_ ?_
    rotate_left
    · intro w hS0; (try dsimp only at hS0); obtain ⟨kP, _⟩ := hS0; obtain ⟨c0, c1, c2, c3, c4, c5, c6, c7, c8, c9, c10⟩ := kP.c11; have y0 := kP.lt;go_simp; (try with_reducible rfl)
    (try simp only [cq])
    refine tkY 2 (some 16) ?_ ?_ ?_
    rotate_left
    · intro w hS0; (try dsimp only at hS0); obtain ⟨kP, _⟩ := hS0; obtain ⟨c0, c1, c2, c3, c4, c5, c6, c7, c8, c9, c10⟩ := kP.c11; have y0 := kP.lt;go_simp; (try with_reducible rfl)
    (try simp only [cq])
    refine tkY 3 (some 17) ?_ ?_ ?_
    rotate_left
    · intro w hS0; (try dsimp only at hS0); obtain ⟨kP, _⟩ := hS0; obtain ⟨c0, c1, c2, c3, c4, c5, c6, c7, c8, c9, c10⟩ := kP.c11; have y0 := kP.lt;go_simp; (try with_reducible rfl)
    (try simp only [cq])
    refine tkY 4 (some 18) ?_ ?_ ?_
    rotate_left
    · intro w _; go_simp; (try with_reducible rfl)
    (try simp only [cq])
    refine tkY 5 (some 19) ?_ ?_ ?_
    rotate_left
    · intro w _; go_simp; (try with_reducible rfl)
    (try simp only [cq])
    refine tkY 6 (some 20) ?_ ?_ ?_
    rotate_left
    · intro w _; go_simp; (try with_reducible rfl)
    (try simp only [cq])
    refine tkY 7 (some 21) ?_ ?_ ?_
    rotate_left
    · intro w hS0; (try dsimp only at hS0); obtain ⟨kP, _⟩ := hS0; obtain ⟨c0, c1, c2, c3, c4, c5, c6, c7, c8, c9, c10⟩ := kP.c11; have y0 := kP.lt;go_simp; (try with_reducible rfl)
    (try simp only [cq])
    refine tkY 8 (some 22) ?_ ?_ ?_
    rotate_left
    · intro w hS0; (try dsimp only at hS0); obtain ⟨kP, _⟩ := hS0; obtain ⟨c0, c1, c2, c3, c4, c5, c6, c7, c8, c9, c10⟩ := kP.c11; have y0 := kP.lt;go_simp; (try with_reducible rfl)
    (try simp only [cq])
    refine tkY 9 (some 23) ?_ ?_ ?_
    rotate_left
    · intro w hS0; (try dsimp only at hS0); obtain ⟨kP, _⟩ := hS0; obtain ⟨c0, c1, c2, c3, c4, c5, c6, c7, c8, c9, c10⟩ := kP.c11; have y0 := kP.lt;go_simp; (try with_reducible rfl)
    (try simp only [cq])
    refine tkY 10 (some 24) ?_ ?_ ?_
    rotate_left
    · intro w hS0; (try dsimp only at hS0); obtain ⟨kP, _⟩ := hS0; obtain ⟨c0, c1, c2, c3, c4, c5, c6, c7, c8, c9, c10⟩ := kP.c11; have y0 := kP.lt;go_simp; (try with_reducible rfl)
    (try simp only [cq])
    refine tkY 11 (some 25) ?_ ?_ ?_
    rotate_left
    · intro w _; go_simp; (try with_reducible rfl)
    (try simp only [cq])
    refine tkY 12 (some 26) ?_ ?_ ?_
    rotate_left
    · intro w _; go_simp; (try with_reducible rfl)
    (try simp only [cq])
    refine tkY 13 (some 27) ?_ ?_ ?_
    rotate_left
    · intro w _; go_simp; (try with_reducible rfl)
    (try simp only [cq])
    refine tkY 14 (some 28) ?_ ?_ ?_
    rotate_left
    · intro w _; go_simp; (try with_reducible rfl)
    (try simp only [cq])
    refine tkY 15 (some 29) ?_ ?_ ?_
    rotate_left
    · intro w _; go_simp; (try with_reducible rfl)
    (try simp only [cq])
    refine tkY 16 (some 4) ?_ ?_ ?_
    rotate_left
    · intro w _; go_simp; (try with_reducible rfl)
    (try simp only [cq])
    refine tkY 17 (some 5) ?_ ?_ ?_
    rotate_left
    · intro w _; go_simp; (try with_reducible rfl)
    (try simp only [cq])
    refine wpAnyH_done (by kernel_rfl) ?_ _
    (try dsimp only [Act.put])
    (try simp only [cq])
    clear jP jB
    obtain ⟨_, jB⟩ := hH
    go_wp2
    exact bodyPost_ret (v := .tuple #[.int .i64 lo, .int .i64 hi]) (by simp [results, Try.results148, go_sem]) rfl ⟨rfl, jB⟩

set_option maxRecDepth 100000 in
set_option maxHeartbeats 8000000 in
theorem rcrit_any (p : Pl) (hp : p.Ok) (vS vC : Value) (shore v : Int) (hv : 0 ≤ v ∧ v ≤ 1000) (d : Nat) (hd : d ≤ 10000) (w : World) (hS : TabAt w vS p.S) (hC : TabAt w vC p.C) :
    Calls Try.prog 137 #[.agg #[.int .i64 p.s0, .int .i64 p.s1, vS, vC, .int .i64 p.ne, .int .i64 p.ed, .int .i64 p.gr, .int .i64 p.lo, .int .i64 p.hi, .int .i64 p.sh, .int .i64 p.wi], .int .i64 d, .int .i64 shore, .int .i64 v] w fun e w' => e = .returned (.bool (critV p shore v d)) ∧ Below w.heap.size w w' := by
  obtain ⟨aS, cS, rfl, _, _, _⟩ := id hS
  obtain ⟨aC, cC, rfl, _, _, _⟩ := id hC
  have HBd : Hid (∀ W, Below w.heap.size w W → Calls Try.prog 148 #[.agg #[.int .i64 p.s0, .int .i64 p.s1, (.slice aS p.S.n cS), (.slice aC p.C.n cC), .int .i64 p.ne, .int .i64 p.ed, .int .i64 p.gr, .int .i64 p.lo, .int .i64 p.hi, .int .i64 p.sh, .int .i64 p.wi], .int .i64 shore] W fun e w' => e = .returned (.tuple #[.int .i64 (loB p shore), .int .i64 (hiB p shore)]) ∧ Below W.heap.size W w') := fun W hW => rband_any p hp _ _ shore W (PairsAt.later hS hW) (PairsAt.later hC hW)
  have hl := lo_in hp shore
  have hh := hi_in hp shore
  have HV : Hid (critV p shore v d = (decide (loB p shore * p.gr * (d : Int) ≤ v * v * 1000000) && decide (v * v * 1000000 ≤ hiB p shore * p.gr * (d : Int)))) := rfl
  generalize critV p shore v d = r at HV ⊢
  generalize loB p shore = lo at HBd hl HV
  generalize hiB p shore = hi at HBd hh HV
  have g0 := hp.gr0
  have g1 := hp.gr1
  have m0 := Int.mul_nonneg hv.1 hv.1
  have m1 := Int.mul_le_mul hv.2 hv.2 hv.1 (by omega : (0 : Int) ≤ 1000)
  have l0 := Int.mul_nonneg hl.1 (show 0 ≤ p.gr by omega)
  have l1 := Int.mul_le_mul hl.2 g1 (by omega) (by omega : (0 : Int) ≤ 4000000)
  have l2 := Int.mul_nonneg l0 (show (0 : Int) ≤ (d : Int) by omega)
  have l3 := Int.mul_le_mul l1 (show (d : Int) ≤ 10000 by omega) (by omega) (by omega)
  have h0 := Int.mul_nonneg hh.1 (show 0 ≤ p.gr by omega)
  have h1 := Int.mul_le_mul hh.2 g1 (by omega) (by omega : (0 : Int) ≤ 8000000)
  have h2 := Int.mul_nonneg h0 (show (0 : Int) ≤ (d : Int) by omega)
  have h3 := Int.mul_le_mul h1 (show (d : Int) ≤ 10000 by omega) (by omega) (by omega)
  have ew0 : IntKind.i64.wrap (v * v) = v * v := IntWalk.i64_in _ (by omega)
  have ew1 : IntKind.i64.wrap (v * v * 1000000) = v * v * 1000000 := IntWalk.i64_in _ (by omega)
  have ew2 : IntKind.i64.wrap (lo * p.gr) = lo * p.gr := IntWalk.i64_in _ (by omega)
  have ew3 : IntKind.i64.wrap (lo * p.gr * (d : Int)) = lo * p.gr * (d : Int) := IntWalk.i64_in _ (by omega)
  have ew4 : IntKind.i64.wrap (hi * p.gr) = hi * p.gr := IntWalk.i64_in _ (by omega)
  have ew5 : IntKind.i64.wrap (hi * p.gr * (d : Int)) = hi * p.gr * (d : Int) := IntWalk.i64_in _ (by omega)
  clear hS hC hp g0 g1 m0 m1 l0 l1 l2 l3 h0 h1 h2 h3 hl hh hv hd
  have jP := Blk.new w #[.int .i64 p.s0, .int .i64 p.s1, (.slice aS p.S.n cS), (.slice aC p.C.n cC), .int .i64 p.ne, .int .i64 p.ed, .int .i64 p.gr, .int .i64 p.lo, .int .i64 p.hi, .int .i64 p.sh, .int .i64 p.wi] 26
  have jB : Below w.heap.size w (w.alloc (.cells #[.int .i64 p.s0, .int .i64 p.s1, (.slice aS p.S.n cS), (.slice aC p.C.n cC), .int .i64 p.ne, .int .i64 p.ed, .int .i64 p.gr, .int .i64 p.lo, .int .i64 p.hi, .int .i64 p.sh, .int .i64 p.wi] 26)) := by (repeat (first | exact Below.refl _ _ | assumption | refine Below.drew ?_ | refine Below.drewN ?_ _ | refine blT ?_ | refine blU ?_))
  go_enter Try.func137, Try.ntmps137
  go_upto_region 1 with fail
  obtain ⟨c0, c1, c2, c3, c4, c5, c6, c7, c8, c9, c10⟩ := jP.c11
  have zP := jP.lt
  go_wp2_with fail
  clear c0 c1 c2 c3 c4 c5 c6 c7 c8 c9 c10 zP
  refine (HBd.out _ jB).mono ?_
  rintro e w1 ⟨rfl, hb⟩
  replace jP := jP.call hb
  replace jB := bwS jB (Nat.le_refl _) hb
  clear hb HBd
  obtain ⟨c0, c1, c2, c3, c4, c5, c6, c7, c8, c9, c10⟩ := jP.c11
  have zP := jP.lt
  by_cases q1 : lo * p.gr * (d : Int) ≤ v * v * 1000000
  · by_cases q2 : v * v * 1000000 ≤ hi * p.gr * (d : Int)
    · have hr : r = true := by rw [HV.out]; simp [q1, q2]
      subst hr
      go_wp2
      go_ret
      exact ⟨rfl, jB⟩
    · have hr : r = false := by rw [HV.out]; simp [q1]; omega
      subst hr
      go_wp2
      go_ret
      first
        | exact ⟨rfl, jB⟩
        | exact ⟨by simp [q2], jB⟩
  · have hr : r = false := by rw [HV.out]; simp; omega
    subst hr
    go_wp2
    go_ret
    exact ⟨rfl, jB⟩

set_option maxRecDepth 100000 in
set_option maxHeartbeats 8000000 in
theorem rcalm_any (p : Pl) (hp : p.Ok) (vS vC : Value) (d0 d1 shore v : Int) (hv : 0 ≤ v ∧ v ≤ 1000) (hd : 0 ≤ d0 ∧ d0 ≤ d1 ∧ d1 ≤ 10000) (w : World) (hS : TabAt w vS p.S) (hC : TabAt w vC p.C) :
    Calls Try.prog 105 #[.agg #[.int .i64 p.s0, .int .i64 p.s1, vS, vC, .int .i64 p.ne, .int .i64 p.ed, .int .i64 p.gr, .int .i64 p.lo, .int .i64 p.hi, .int .i64 p.sh, .int .i64 p.wi], .agg #[.int .i64 d0, .int .i64 d1], .int .i64 shore, .int .i64 v] w fun e w' => e = .returned (.int .i64 (calmV p d0 d1 shore v)) ∧ Below w.heap.size w w' := by
  obtain ⟨aS, cS, rfl, _, _, _⟩ := id hS
  obtain ⟨aC, cC, rfl, _, _, _⟩ := id hC
  obtain ⟨a, rfl⟩ : ∃ a : Nat, (a : Int) = d0 := ⟨d0.toNat, by omega⟩
  obtain ⟨m, hm⟩ : ∃ m : Nat, (a : Int) + (m : Int) = d1 + 1 := ⟨(d1 + 1 - (a : Int)).toNat, by omega⟩
  obtain ⟨f, hf⟩ : ∃ f : Nat → Bool, f = critV p shore v := ⟨_, rfl⟩
  have HCr : Hid (∀ d : Nat, d ≤ 10000 → ∀ W, Below w.heap.size w W → Calls Try.prog 137 #[.agg #[.int .i64 p.s0, .int .i64 p.s1, (.slice aS p.S.n cS), (.slice aC p.C.n cC), .int .i64 p.ne, .int .i64 p.ed, .int .i64 p.gr, .int .i64 p.lo, .int .i64 p.hi, .int .i64 p.sh, .int .i64 p.wi], .int .i64 d, .int .i64 shore, .int .i64 v] W fun e w' => e = .returned (.bool (f d)) ∧ Below W.heap.size W w') := fun d hd W hW => by rw [hf]; exact rcrit_any p hp _ _ shore v hv d hd W (PairsAt.later hS hW) (PairsAt.later hC hW)
  have HV : Hid (calmV p (a : Int) d1 shore v = if cntB f a m = 0 then 1 else if cntB f a m = m then 2 else 3) := by
    unfold calmV
    rw [show (a : Int).toNat = a by omega, show (d1 - (a : Int) + 1).toNat = m by omega, hf]
    exact rfl
  generalize calmV p (a : Int) d1 shore v = r at HV ⊢
  have HL : Hid (∀ k, cntB f a k ≤ k) := cntB_le f a
  have H0 : Hid (cntB f a 0 = 0) := rfl
  have HS : Hid (∀ k, cntB f a (k + 1) = if f (a + k) = true then cntB f a k + 1 else cntB f a k) := fun k => rfl
  generalize cntB f a = c at HV HL H0 HS
  have jP := (Blk.new w #[.int .i64 p.s0, .int .i64 p.s1, (.slice aS p.S.n cS), (.slice aC p.C.n cC), .int .i64 p.ne, .int .i64 p.ed, .int .i64 p.gr, .int .i64 p.lo, .int .i64 p.hi, .int .i64 p.sh, .int .i64 p.wi] 26).alloc (.cells #[.int .i64 a, .int .i64 d1] 23)
  have jD := Blk.new1 w (.cells #[.int .i64 p.s0, .int .i64 p.s1, (.slice aS p.S.n cS), (.slice aC p.C.n cC), .int .i64 p.ne, .int .i64 p.ed, .int .i64 p.gr, .int .i64 p.lo, .int .i64 p.hi, .int .i64 p.sh, .int .i64 p.wi] 26) #[.int .i64 a, .int .i64 d1] 23
  have jB : Below w.heap.size w ((w.alloc (.cells #[.int .i64 p.s0, .int .i64 p.s1, (.slice aS p.S.n cS), (.slice aC p.C.n cC), .int .i64 p.ne, .int .i64 p.ed, .int .i64 p.gr, .int .i64 p.lo, .int .i64 p.hi, .int .i64 p.sh, .int .i64 p.wi] 26)).alloc (.cells #[.int .i64 a, .int .i64 d1] 23)) := by (repeat (first | exact Below.refl _ _ | assumption | refine Below.drew ?_ | refine Below.drewN ?_ _ | refine blT ?_ | refine blU ?_))
  have h00 := H0.out
  clear hS hC hp hf hv
  go_enter Try.func105, Try.ntmps105
  go_upto_region 1 with fail
  obtain ⟨bP, hbP⟩ : ∃ b, w.heap.size = b := ⟨_, rfl⟩
  obtain ⟨bD, hbD⟩ : ∃ b, bP + 1 = b := ⟨_, rfl⟩
  rw [hbP] at jP jD
  (try rw [hbP])
  rw [hbD] at jD
  (try rw [hbD])
  clear hbP hbD
  generalize (w.alloc (.cells #[.int .i64 p.s0, .int .i64 p.s1, (.slice aS p.S.n cS), (.slice aC p.C.n cC), .int .i64 p.ne, .int .i64 p.ed, .int .i64 p.gr, .int .i64 p.lo, .int .i64 p.hi, .int .i64 p.sh, .int .i64 p.wi] 26)).alloc (.cells #[.int .i64 a, .int .i64 d1] 23) = V at jP jD jB ⊢
  obtain ⟨e0, e1⟩ := jD.c2
  have zD := jD.lt
  go_wp2_with fail
  clear e0 e1 zD
  go_loopw [9, 10] (fun n i wr => ∃ k : Nat, i = .int .i64 ((a : Int) + (k : Int)) ∧ n = .int .i64 (c k) ∧ k ≤ m ∧ Blk wr bP #[.int .i64 p.s0, .int .i64 p.s1, (.slice aS p.S.n cS), (.slice aC p.C.n cC), .int .i64 p.ne, .int .i64 p.ed, .int .i64 p.gr, .int .i64 p.lo, .int .i64 p.hi, .int .i64 p.sh, .int .i64 p.wi] 26 ∧ Blk wr bD #[.int .i64 a, .int .i64 d1] 23 ∧ Below w.heap.size w wr) (fun _ i _ => (d1 + 1 - intOf i).toNat)
  case atStart => exact ⟨0, by simp, by rw [h00]; rfl, Nat.zero_le _, jP, jD, jB⟩
  case round =>
    clear jP jD jB h00
    obtain ⟨k, rfl, rfl, hk, jP, jD, jB⟩ := hrel
    obtain ⟨e0, e1⟩ := jD.c2
    have zD := jD.lt
    have hlk := HL.out k
    by_cases hlt : k < m
    · have hle : (a : Int) + (k : Int) ≤ d1 := by omega
      have HCk0 := HCr.out (a + k) (by omega) _ jB
      rw [show ((a + k : Nat) : Int) = (a : Int) + (k : Int) by omega] at HCk0
      have HSk0 := HS.out k
      obtain ⟨y, hy⟩ : ∃ y, f (a + k) = y := ⟨_, rfl⟩
      rw [hy] at HCk0 HSk0
      have HCk := Lib.hid HCk0
      have HSk := Lib.hid HSk0
      clear hy HCk0 HSk0
      obtain ⟨c0, c1, c2, c3, c4, c5, c6, c7, c8, c9, c10⟩ := jP.c11
      have zP := jP.lt
      go_wp2_with fail
      clear c0 c1 c2 c3 c4 c5 c6 c7 c8 c9 c10 zP e0 e1 zD
      refine HCk.out.mono ?_
      rintro e w5 ⟨rfl, hb⟩
      replace jP := jP.call hb
      replace jD := jD.call hb
      replace jB := bwS jB (Nat.le_refl _) hb
      clear hb HCk
      have ewd : IntKind.i64.wrap ((a : Int) + (k : Int) + 1) = (a : Int) + (k : Int) + 1 := IntWalk.i64_in _ (by omega)
      cases y with
      | true =>
        have ewc : IntKind.i64.wrap (((c k : Nat) : Int) + 1) = ((c k : Nat) : Int) + 1 := IntWalk.i64_in _ (by omega)
        go_wp2
        go_roundw
        case rel => exact ⟨k + 1, by go_num, by rw [HSk.out]; simp, by omega, jP, jD, jB⟩
        case measure => simp [intOf]; omega
      | false =>
        go_wp2
        go_roundw
        case rel => exact ⟨k + 1, by go_num, by rw [HSk.out]; simp, by omega, jP, jD, jB⟩
        case measure => simp [intOf]; omega
    · obtain rfl : k = m := by omega
      have hle : ¬ (a : Int) + (k : Int) ≤ d1 := by omega
      have hr0 := HV.out
      have ew1 : IntKind.i64.wrap (d1 - (a : Int)) = d1 - (a : Int) := IntWalk.i64_in _ (by omega)
      have ew2 : IntKind.i64.wrap (d1 - (a : Int) + 1) = d1 - (a : Int) + 1 := IntWalk.i64_in _ (by omega)
      by_cases z : c k = 0
      · rw [if_pos z] at hr0
        subst hr0
        have z1 : (((c k : Nat) : Int) == 0) = true := by simp [z]
        have z2 : ((c k : Nat) : Int) = 0 := by omega
        go_wp2
        go_ret
        exact ⟨rfl, jB⟩
      · rw [if_neg z] at hr0
        have z1 : (((c k : Nat) : Int) == 0) = false := by simp [z]
        by_cases y : c k = k
        · rw [if_pos y] at hr0
          subst hr0
          have y1 : (((c k : Nat) : Int) == d1 - (a : Int) + 1) = true := by simp; omega
          go_wp2
          go_ret
          exact ⟨rfl, jB⟩
        · rw [if_neg y] at hr0
          subst hr0
          have y1 : (((c k : Nat) : Int) == d1 - (a : Int) + 1) = false := by simp; omega
          go_wp2
          go_ret
          exact ⟨rfl, jB⟩

set_option maxRecDepth 100000 in
set_option maxHeartbeats 8000000 in
theorem rwater_any (p : Pl) (vS vC : Value) (a b shore : Int) (w : World) (hS : TabAt w vS p.S) (hC : TabAt w vC p.C) :
    Calls Try.prog 104 #[.agg #[.int .i64 p.s0, .int .i64 p.s1, vS, vC, .int .i64 p.ne, .int .i64 p.ed, .int .i64 p.gr, .int .i64 p.lo, .int .i64 p.hi, .int .i64 p.sh, .int .i64 p.wi], .agg #[.int .i64 a, .int .i64 b], .int .i64 shore] w fun e w' => e = .returned (.int .i64 (eWav p a b shore)) ∧ Below w.heap.size w w' := by
  obtain ⟨aS, cS, rfl, _, _, _⟩ := id hS
  obtain ⟨aC, cC, rfl, _, _, _⟩ := id hC
  have HR : Hid (∀ W, Below w.heap.size w W → Calls Try.prog 31 #[.agg #[.int .i64 p.s0, .int .i64 p.s1, (.slice aS p.S.n cS), (.slice aC p.C.n cC), .int .i64 p.ne, .int .i64 p.ed, .int .i64 p.gr, .int .i64 p.lo, .int .i64 p.hi, .int .i64 p.sh, .int .i64 p.wi]] W fun e w' => e = .returned (.int .i64 (ePl p)) ∧ Below W.heap.size W w') := fun W hW => rcheck_any p _ _ W (PairsAt.later hS hW) (PairsAt.later hC hW)
  have HSp := Lib.hid (rspan_any a b 0 10000)
  have HE1 := Lib.hid (outB_eN shore 0 100000)
  have O1 := Lib.hid (rout_any shore 0 100000)
  obtain ⟨r, hr⟩ : ∃ r, eWav p a b shore = r := ⟨_, rfl⟩
  rw [hr]
  unfold eWav at hr
  obtain ⟨x3, hx3⟩ : ∃ x, eN shore 0 100000 = x := ⟨_, rfl⟩
  rw [hx3] at HE1 hr
  generalize outB shore 0 100000 = o1 at O1 HE1
  generalize ePl p = x1 at HR hr
  generalize eS a b 0 10000 = x2 at HSp hr
  have HH := Lib.hid hr
  clear hS hC hx3 hr
  have jP := (Blk.new w #[.int .i64 p.s0, .int .i64 p.s1, (.slice aS p.S.n cS), (.slice aC p.C.n cC), .int .i64 p.ne, .int .i64 p.ed, .int .i64 p.gr, .int .i64 p.lo, .int .i64 p.hi, .int .i64 p.sh, .int .i64 p.wi] 26).alloc (.cells #[.int .i64 a, .int .i64 b] 23)
  have jD := Blk.new1 w (.cells #[.int .i64 p.s0, .int .i64 p.s1, (.slice aS p.S.n cS), (.slice aC p.C.n cC), .int .i64 p.ne, .int .i64 p.ed, .int .i64 p.gr, .int .i64 p.lo, .int .i64 p.hi, .int .i64 p.sh, .int .i64 p.wi] 26) #[.int .i64 a, .int .i64 b] 23
  have jB : Below w.heap.size w ((w.alloc (.cells #[.int .i64 p.s0, .int .i64 p.s1, (.slice aS p.S.n cS), (.slice aC p.C.n cC), .int .i64 p.ne, .int .i64 p.ed, .int .i64 p.gr, .int .i64 p.lo, .int .i64 p.hi, .int .i64 p.sh, .int .i64 p.wi] 26)).alloc (.cells #[.int .i64 a, .int .i64 b] 23)) := by (repeat (first | exact Below.refl _ _ | assumption | refine Below.drew ?_ | refine Below.drewN ?_ _ | refine blT ?_ | refine blU ?_))
  go_enter Try.func104, Try.ntmps104
  go_upto_region 1 with fail
  obtain ⟨c0, c1, c2, c3, c4, c5, c6, c7, c8, c9, c10⟩ := jP.c11
  have zP := jP.lt
  go_wp2_with fail
  clear c0 c1 c2 c3 c4 c5 c6 c7 c8 c9 c10 zP
  refine (HR.out _ jB).mono ?_
  rintro e w1 ⟨rfl, hb⟩
  replace jD := jD.call hb
  replace jB := bwS jB (Nat.le_refl _) hb
  clear hb HR jP
  by_cases e1 : x1 = 0
  · subst e1
    obtain ⟨f0, f1⟩ := jD.c2
    have zD := jD.lt
    go_wp2_with fail
    clear f0 f1 zD
    refine (HSp.out _).mono ?_
    rintro e w2 ⟨rfl, hb⟩
    replace jB := bwS jB (Nat.le_refl _) hb
    clear hb HSp jD
    by_cases e2 : x2 = 0
    · subst e2
      have hr := HH.out
      rw [orE_eq, orE_eq] at hr
      subst hr
      go_wp2_with fail
      refine (O1.out _).mono ?_
      rintro e w3 ⟨rfl, rfl⟩
      have E1 := HE1.out
      cases o1 with
      | true =>
        simp only [if_true] at E1
        subst E1
        go_wp2
        go_ret
        exact ⟨rfl, jB⟩
      | false =>
        simp only [Bool.false_eq_true, if_false] at E1
        subst E1
        go_wp2
        go_ret
        exact ⟨rfl, jB⟩
    · have e4 : (x2 != 0) = true := by simpa using e2
      have hr := HH.out
      rw [orE_eq, orE_ne e2] at hr
      subst hr
      clear e2
      go_wp2
      go_ret
      exact ⟨rfl, jB⟩
  · have e4 : (x1 != 0) = true := by simpa using e1
    have hr := HH.out
    rw [orE_ne e1] at hr
    subst hr
    clear e1
    go_wp2
    go_ret
    exact ⟨rfl, jB⟩

set_option maxRecDepth 100000 in
set_option maxHeartbeats 8000000 in
theorem rspeed_any (p : Pl) (vS vC : Value) (a b shore v : Int) (w : World) (hS : TabAt w vS p.S) (hC : TabAt w vC p.C) :
    Calls Try.prog 45 #[.agg #[.int .i64 p.s0, .int .i64 p.s1, vS, vC, .int .i64 p.ne, .int .i64 p.ed, .int .i64 p.gr, .int .i64 p.lo, .int .i64 p.hi, .int .i64 p.sh, .int .i64 p.wi], .agg #[.int .i64 a, .int .i64 b], .int .i64 shore, .int .i64 v] w fun e w' => e = .returned (.tuple #[.int .i64 (if eSpd p a b shore v = 0 then calmV p a b shore v else 0), .int .i64 (eSpd p a b shore v)]) ∧ Below w.heap.size w w' := by
  obtain ⟨aS, cS, rfl, _, _, _⟩ := id hS
  obtain ⟨aC, cC, rfl, _, _, _⟩ := id hC
  have HR : Hid (∀ W, Below w.heap.size w W → Calls Try.prog 104 #[.agg #[.int .i64 p.s0, .int .i64 p.s1, (.slice aS p.S.n cS), (.slice aC p.C.n cC), .int .i64 p.ne, .int .i64 p.ed, .int .i64 p.gr, .int .i64 p.lo, .int .i64 p.hi, .int .i64 p.sh, .int .i64 p.wi], .agg #[.int .i64 a, .int .i64 b], .int .i64 shore] W fun e w' => e = .returned (.int .i64 (eWav p a b shore)) ∧ Below W.heap.size W w') := fun W hW => rwater_any p _ _ a b shore W (PairsAt.later hS hW) (PairsAt.later hC hW)
  have HG : Hid (eSpd p a b shore v = 0 → ∀ W, Below w.heap.size w W → Calls Try.prog 105 #[.agg #[.int .i64 p.s0, .int .i64 p.s1, (.slice aS p.S.n cS), (.slice aC p.C.n cC), .int .i64 p.ne, .int .i64 p.ed, .int .i64 p.gr, .int .i64 p.lo, .int .i64 p.hi, .int .i64 p.sh, .int .i64 p.wi], .agg #[.int .i64 a, .int .i64 b], .int .i64 shore, .int .i64 v] W fun e w' => e = .returned (.int .i64 (calmV p a b shore v)) ∧ Below W.heap.size W w') := fun h W hW => by
    obtain ⟨h1, h2⟩ := orE_inv h
    obtain ⟨h3, h4⟩ := orE_inv h1
    obtain ⟨h5, h6⟩ := orE_inv h4
    exact rcalm_any p (ePl_inv h3) _ _ a b shore v (eN_inv h2) (eS_inv h5) W (PairsAt.later hS hW) (PairsAt.later hC hW)
  obtain ⟨q, hq⟩ : ∃ q, (if eSpd p a b shore v = 0 then calmV p a b shore v else 0) = q := ⟨_, rfl⟩
  obtain ⟨r, hr⟩ : ∃ r, eSpd p a b shore v = r := ⟨_, rfl⟩
  rw [hq]
  rw [hr] at HG hq ⊢
  generalize calmV p a b shore v = y at HG hq
  unfold eSpd at hr
  have HE1 := Lib.hid (outB_eN v 0 1000)
  have O1 := Lib.hid (rout_any v 0 1000)
  obtain ⟨x3, hx3⟩ : ∃ x, eN v 0 1000 = x := ⟨_, rfl⟩
  rw [hx3] at HE1 hr
  generalize outB v 0 1000 = o1 at O1 HE1
  generalize eWav p a b shore = x1 at HR hr
  have HH := Lib.hid (And.intro hr hq)
  clear hS hC hx3 hr hq
  have jP := (Blk.new w #[.int .i64 p.s0, .int .i64 p.s1, (.slice aS p.S.n cS), (.slice aC p.C.n cC), .int .i64 p.ne, .int .i64 p.ed, .int .i64 p.gr, .int .i64 p.lo, .int .i64 p.hi, .int .i64 p.sh, .int .i64 p.wi] 26).alloc (.cells #[.int .i64 a, .int .i64 b] 23)
  have jD := Blk.new1 w (.cells #[.int .i64 p.s0, .int .i64 p.s1, (.slice aS p.S.n cS), (.slice aC p.C.n cC), .int .i64 p.ne, .int .i64 p.ed, .int .i64 p.gr, .int .i64 p.lo, .int .i64 p.hi, .int .i64 p.sh, .int .i64 p.wi] 26) #[.int .i64 a, .int .i64 b] 23
  have jB : Below w.heap.size w ((w.alloc (.cells #[.int .i64 p.s0, .int .i64 p.s1, (.slice aS p.S.n cS), (.slice aC p.C.n cC), .int .i64 p.ne, .int .i64 p.ed, .int .i64 p.gr, .int .i64 p.lo, .int .i64 p.hi, .int .i64 p.sh, .int .i64 p.wi] 26)).alloc (.cells #[.int .i64 a, .int .i64 b] 23)) := by (repeat (first | exact Below.refl _ _ | assumption | refine Below.drew ?_ | refine Below.drewN ?_ _ | refine blT ?_ | refine blU ?_))
  go_enter Try.func45, Try.ntmps45
  go_upto_region 1 with fail
  obtain ⟨c0, c1, c2, c3, c4, c5, c6, c7, c8, c9, c10⟩ := jP.c11
  have zP := jP.lt
  obtain ⟨f0, f1⟩ := jD.c2
  have zD := jD.lt
  go_wp2_with fail
  clear c0 c1 c2 c3 c4 c5 c6 c7 c8 c9 c10 zP f0 f1 zD
  refine (HR.out _ jB).mono ?_
  rintro e w1 ⟨rfl, hb⟩
  replace jP := jP.call hb
  replace jD := jD.call hb
  replace jB := bwS jB (Nat.le_refl _) hb
  clear hb HR
  by_cases e1 : x1 = 0
  · subst e1
    go_wp2_with fail
    refine (O1.out _).mono ?_
    rintro e w3 ⟨rfl, rfl⟩
    have E1 := HE1.out
    cases o1 with
    | true =>
      simp only [if_true] at E1
      subst E1
      go_wp2
      obtain ⟨hr, hq⟩ := HH.out
      rw [orE_eq] at hr
      subst hr
      rw [if_neg (by decide)] at hq
      subst hq
      exact bodyPost_ret (v := .tuple #[.int .i64 0, .int .i64 2]) (by simp [results, Try.results45, go_sem]) rfl ⟨rfl, jB⟩
    | false =>
      simp only [Bool.false_eq_true, if_false] at E1
      subst E1
      obtain ⟨hr, hq⟩ := HH.out
      rw [orE_eq] at hr
      subst hr
      rw [if_pos rfl] at hq
      subst hq
      have HGn := Lib.hid (HG.out rfl)
      clear HG HH
      obtain ⟨c0, c1, c2, c3, c4, c5, c6, c7, c8, c9, c10⟩ := jP.c11
      have zP := jP.lt
      obtain ⟨f0, f1⟩ := jD.c2
      have zD := jD.lt
      go_wp2_with fail
      clear c0 c1 c2 c3 c4 c5 c6 c7 c8 c9 c10 zP f0 f1 zD
      refine (HGn.out _ jB).mono ?_
      rintro e w5 ⟨rfl, hb⟩
      replace jB := bwS jB (Nat.le_refl _) hb
      clear hb
      go_wp2
      exact bodyPost_ret (v := .tuple #[.int .i64 y, .int .i64 0]) (by simp [results, Try.results45, go_sem]) rfl ⟨rfl, jB⟩
  · have e4 : (x1 != 0) = true := by simpa using e1
    have HX := Lib.hid e1
    obtain ⟨hr, hq⟩ := HH.out
    rw [orE_ne e1] at hr
    subst hr
    rw [if_neg e1] at hq
    subst hq
    clear e1 HG HH
    go_wp2
    exact bodyPost_ret (v := .tuple #[.int .i64 0, .int .i64 x1]) (by simp [results, Try.results45, go_sem]) rfl ⟨rfl, jB⟩

set_option maxRecDepth 100000 in
set_option maxHeartbeats 16000000 in
theorem rspeeds_any (p : Pl) (vS vC : Value) (a b shore : Int) (w : World) (hS : TabAt w vS p.S) (hC : TabAt w vC p.C) :
    Calls Try.prog 47 #[.agg #[.int .i64 p.s0, .int .i64 p.s1, vS, vC, .int .i64 p.ne, .int .i64 p.ed, .int .i64 p.gr, .int .i64 p.lo, .int .i64 p.hi, .int .i64 p.sh, .int .i64 p.wi], .agg #[.int .i64 a, .int .i64 b], .int .i64 shore] w fun e w' => ∃ u, e = .returned (.tuple #[u, .int .i64 (eWav p a b shore)]) ∧ PairsAt w' u (spdS p a b shore).m (spdS p a b shore).A (spdS p a b shore).B ∧ Below w.heap.size w w' := by
  obtain ⟨aS, cS, rfl, _, _, _⟩ := id hS
  obtain ⟨aC, cC, rfl, _, _, _⟩ := id hC
  have HR : Hid (∀ W, Below w.heap.size w W → Calls Try.prog 104 #[.agg #[.int .i64 p.s0, .int .i64 p.s1, (.slice aS p.S.n cS), (.slice aC p.C.n cC), .int .i64 p.ne, .int .i64 p.ed, .int .i64 p.gr, .int .i64 p.lo, .int .i64 p.hi, .int .i64 p.sh, .int .i64 p.wi], .agg #[.int .i64 a, .int .i64 b], .int .i64 shore] W fun e w' => e = .returned (.int .i64 (eWav p a b shore)) ∧ Below W.heap.size W w') := fun W hW => rwater_any p _ _ a b shore W (PairsAt.later hS hW) (PairsAt.later hC hW)
  obtain ⟨f, hf⟩ : ∃ f : Nat → Bool, f = spdF p a b shore := ⟨_, rfl⟩
  have HG : Hid (eWav p a b shore = 0 → ∀ k : Nat, k ≤ 1000 → ∀ W, Below w.heap.size w W → ∃ c, f k = decide (c = (1 : Int)) ∧ Calls Try.prog 105 #[.agg #[.int .i64 p.s0, .int .i64 p.s1, (.slice aS p.S.n cS), (.slice aC p.C.n cC), .int .i64 p.ne, .int .i64 p.ed, .int .i64 p.gr, .int .i64 p.lo, .int .i64 p.hi, .int .i64 p.sh, .int .i64 p.wi], .agg #[.int .i64 a, .int .i64 b], .int .i64 shore, .int .i64 k] W fun e w' => e = .returned (.int .i64 c) ∧ Below W.heap.size W w') := fun h k hk W hW => by
    obtain ⟨h3, h4⟩ := orE_inv h
    obtain ⟨h5, h6⟩ := orE_inv h4
    exact ⟨_, by rw [hf]; exact rfl, rcalm_any p (ePl_inv h3) _ _ a b shore (k : Int) (by omega) (eS_inv h5) W (PairsAt.later hS hW) (PairsAt.later hC hW)⟩
  have HS : Hid (spdS p a b shore = if eWav p a b shore = 0 then spV f 1001 else ⟨0, fun _ => 0, fun _ => 0⟩) := by rw [hf]; rfl
  have HF : Hid (∀ k, (spV f k).m ≤ k) := spV_few f
  have HS0 : Hid (spV f 0 = ⟨0, fun _ => 0, fun _ => 0⟩) := rfl
  have HSs : Hid (∀ k, spV f (k + 1) = if f k = true then spStep (spV f k) k else spV f k) := fun k => rfl
  generalize spV f = S at HS HF HS0 HSs
  generalize spdS p a b shore = sp at HS ⊢
  generalize eWav p a b shore = x1 at HR HG HS ⊢
  clear hS hC hf
  have jP := (Blk.new w #[.int .i64 p.s0, .int .i64 p.s1, (.slice aS p.S.n cS), (.slice aC p.C.n cC), .int .i64 p.ne, .int .i64 p.ed, .int .i64 p.gr, .int .i64 p.lo, .int .i64 p.hi, .int .i64 p.sh, .int .i64 p.wi] 26).alloc (.cells #[.int .i64 a, .int .i64 b] 23)
  have jD := Blk.new1 w (.cells #[.int .i64 p.s0, .int .i64 p.s1, (.slice aS p.S.n cS), (.slice aC p.C.n cC), .int .i64 p.ne, .int .i64 p.ed, .int .i64 p.gr, .int .i64 p.lo, .int .i64 p.hi, .int .i64 p.sh, .int .i64 p.wi] 26) #[.int .i64 a, .int .i64 b] 23
  have jB : Below w.heap.size w ((w.alloc (.cells #[.int .i64 p.s0, .int .i64 p.s1, (.slice aS p.S.n cS), (.slice aC p.C.n cC), .int .i64 p.ne, .int .i64 p.ed, .int .i64 p.gr, .int .i64 p.lo, .int .i64 p.hi, .int .i64 p.sh, .int .i64 p.wi] 26)).alloc (.cells #[.int .i64 a, .int .i64 b] 23)) := by (repeat (first | exact Below.refl _ _ | assumption | refine Below.drew ?_ | refine Below.drewN ?_ _ | refine blT ?_ | refine blU ?_))
  go_enter Try.func47, Try.ntmps47
  go_upto_region 1 with fail
  obtain ⟨bP, hbP⟩ : ∃ b, w.heap.size = b := ⟨_, rfl⟩
  obtain ⟨bD, hbD⟩ : ∃ b, bP + 1 = b := ⟨_, rfl⟩
  rw [hbP] at jP jD
  (try rw [hbP])
  rw [hbD] at jD
  (try rw [hbD])
  have zwP : w.heap.size ≤ bP := by omega
  have zPD : bP < bD := by omega
  clear hbP hbD
  generalize (w.alloc (.cells #[.int .i64 p.s0, .int .i64 p.s1, (.slice aS p.S.n cS), (.slice aC p.C.n cC), .int .i64 p.ne, .int .i64 p.ed, .int .i64 p.gr, .int .i64 p.lo, .int .i64 p.hi, .int .i64 p.sh, .int .i64 p.wi] 26)).alloc (.cells #[.int .i64 a, .int .i64 b] 23) = V0 at jP jD jB ⊢
  obtain ⟨c0, c1, c2, c3, c4, c5, c6, c7, c8, c9, c10⟩ := jP.c11
  have zP := jP.lt
  obtain ⟨f0, f1⟩ := jD.c2
  have zD := jD.lt
  go_wp2_with fail
  clear c0 c1 c2 c3 c4 c5 c6 c7 c8 c9 c10 zP f0 f1 zD
  refine (HR.out _ jB).mono ?_
  rintro e V ⟨rfl, hb⟩
  replace jP := jP.call hb
  replace jD := jD.call hb
  replace jB := bwS jB (Nat.le_refl _) hb
  clear hb HR
  by_cases e1 : x1 = 0
  · subst e1
    have HGn := Lib.hid (HG.out rfl)
    clear HG
    have hsp : sp = S 1001 := by rw [HS.out, if_pos rfl]
    subst hsp
    clear HS
    obtain ⟨i0, hi0, hz0, hz1, hz2⟩ := info_parts Try.infoSpan
    have jR := World.ownsRow_nil V V.heap.size 23 2
    have zD := jD.lt
    have zB := Nat.le_refl V.heap.size
    have h00 := HS0.out
    go_wp2_with fail
    go_loopw [9, 10] (fun l i wr => ∃ (k m : Nat) (A B : Nat → Int), i = .int .i64 k ∧ k ≤ 1001 ∧ S k = ⟨m, A, B⟩ ∧ wr.ownsRow V.heap.size 23 2 l m (catC (pairC A B) m) ∧ Blk wr bP #[.int .i64 p.s0, .int .i64 p.s1, (.slice aS p.S.n cS), (.slice aC p.C.n cC), .int .i64 p.ne, .int .i64 p.ed, .int .i64 p.gr, .int .i64 p.lo, .int .i64 p.hi, .int .i64 p.sh, .int .i64 p.wi] 26 ∧ Blk wr bD #[.int .i64 a, .int .i64 b] 23 ∧ Below w.heap.size w wr ∧ V.heap.size ≤ wr.heap.size) (fun _ i _ => 1001 - (intOf i).toNat)
    case atStart => exact ⟨0, 0, _, _, rfl, by omega, h00, jR, jP, jD, jB, zB⟩
    case round =>
      clear jR jP jD jB zB h00
      obtain ⟨k, m, A, B, rfl, hk, hSk, jR, jP, jD, jB, zB⟩ := hrel
      have hm1 := HF.out k
      rw [hSk] at hm1
      simp only at hm1
      by_cases hlt : k ≤ 1000
      · have hlt2 : (k : Int) ≤ 1000 := by omega
        obtain ⟨c, hc, hcall⟩ := HGn.out k hlt _ jB
        have hn := HSs.out k
        rw [hc, hSk] at hn
        have HSk := Lib.hid hn
        have HCk := Lib.hid hcall
        clear hn hc hcall hSk
        obtain ⟨c0, c1, c2, c3, c4, c5, c6, c7, c8, c9, c10⟩ := jP.c11
        have zP := jP.lt
        obtain ⟨f0, f1⟩ := jD.c2
        have zE := jD.lt
        go_wp2_with fail
        clear c0 c1 c2 c3 c4 c5 c6 c7 c8 c9 c10 zP f0 f1 zE
        refine HCk.out.mono ?_
        rintro e w5 ⟨rfl, hb⟩
        replace jP := jP.call hb
        replace jD := jD.call hb
        replace jR := row_call jR hb
        replace zB : V.heap.size ≤ w5.heap.size := by have := hb.size; omega
        replace jB := bwS jB (Nat.le_refl _) hb
        clear hb HCk
        by_cases hc1 : c = 1
        · have e2 : (c != 1) = false := by simp [hc1]
          have hst := HSk.out
          rw [if_pos (by simpa using hc1)] at hst
          replace HSk := Lib.hid hst
          clear hst hc1
          have hr : ∀ z, u9.ownBlock = some z → V.heap.size ≤ z := fun z e => (jR.lt z e).1
          have hpr := pairs_of_row jR
          obtain ⟨aR, cR, hv, hcR, hmR, h3⟩ := hpr
          subst hv
          have H3 := Lib.hid h3
          clear h3
          cases m with
          | zero =>
            clear H3
            go_wp2_with (at_builtin; refine wpList_append_own_at _ rfl _ _ 42 rfl V.heap.size 23 i0 (.agg #[.int .i64 0, .int .i64 0]) 2 16 Try.underlying42 hi0 hz0 hz1 hz2 rfl (by decide) _ _ _ rfl (jR.alloc _) ⟨w5.heap.size, 0, none⟩ 1 1 [.int .i64 k, .int .i64 k] rfl rfl (news2 _ _ _ _) (one2 _ _) (by unfold maxLen; omega) (by omega) (by simp; omega) ?_; intro v' w9 hown' hgrow _ _; rw [← pairC_up] at hown'; have kP := (jP.alloc (.cells #[.int .i64 (k : Int), .int .i64 (k : Int)] 23)).grown hgrow (fun q e => by have := hr q e; omega); have kD := (jD.alloc (.cells #[.int .i64 (k : Int), .int .i64 (k : Int)] 23)).grown hgrow (fun q e => by have := hr q e; omega); have kB := below_grown (bwA jB (Nat.le_refl _) (.cells #[.int .i64 (k : Int), .int .i64 (k : Int)] 23)) hgrow (fun q e => by have := hr q e; omega) (by simp; omega); have kZ : V.heap.size ≤ w9.heap.size := (by have := hgrow.size; simp at this; omega))
            clear hgrow jP jD jB jR zB hr
            go_roundw
            case rel => exact ⟨k + 1, _, _, _, by go_num, by omega, by rw [HSk.out]; exact spStep_none, hown', kP, kD, kB, kZ⟩
            case measure => simp [intOf]; omega
          | succ j =>
            obtain ⟨g, cur, rfl, hg, kN⟩ := row_blk jR (by omega)
            obtain ⟨b', o', hb', hcc⟩ := H3.out (by omega)
            simp only [Option.some.injEq, Addr.mk.injEq, and_true] at hb'
            obtain ⟨rfl, rfl⟩ := hb'
            have l1 := (hcc j (by omega)).2
            simp only [Nat.zero_add] at l1
            clear hcc H3
            have zN := kN.lt
            have ew0 : IntKind.i64.wrap (((j + 1 : Nat) : Int) - 1) = (j : Int) := by rw [show ((j + 1 : Nat) : Int) - 1 = (j : Int) by omega]; exact IntWalk.i64_in _ (by omega)
            have ew1 : IntKind.i64.wrap ((k : Int) - 1) = (k : Int) - 1 := IntWalk.i64_in _ (by omega)
            have hm0 : (0 : Int) < ((j + 1 : Nat) : Int) := by omega
            have hjl : (j : Int) < ((j + 1 : Nat) : Int) := by omega
            obtain ⟨y, hy⟩ : ∃ y, B j = y := ⟨_, rfl⟩
            rw [hy] at l1
            by_cases hjn : y = (k : Int) - 1
            · have e3 : (y == (k : Int) - 1) = true := by simp [hjn]
              have hst := HSk.out
              rw [spStep_join (hy.trans hjn)] at hst
              replace HSk := Lib.hid hst
              have f2 := kN.free (j * 2 + 1)
              have kOwn := row_setP jR j (by omega) (k : Int)
              have kP := jP.other ⟨g, j * 2 + 1, none⟩ (.int .i64 (k : Int)) (by simp; omega)
              have kD := jD.other ⟨g, j * 2 + 1, none⟩ (.int .i64 (k : Int)) (by simp; omega)
              have kB := jB.setCell (p := ⟨g, j * 2 + 1, none⟩) (by simp; omega) (.int .i64 (k : Int))
              clear jR jP jD jB hst hy kN hr
              go_wp2
              go_roundw
              case rel => exact ⟨k + 1, _, _, _, by go_num, by omega, HSk.out, kOwn, kP, kD, kB, by simpa using zB⟩
              case measure => simp [intOf]; omega
            · have e3 : (y == (k : Int) - 1) = false := by simp [hjn]
              have hst := HSk.out
              rw [spStep_apart (fun q => hjn (hy.symm.trans q))] at hst
              replace HSk := Lib.hid hst
              clear hst hy kN hjn
              go_wp2_with (at_builtin; refine wpList_append_own_at _ rfl _ _ 42 rfl V.heap.size 23 i0 (.agg #[.int .i64 0, .int .i64 0]) 2 16 Try.underlying42 hi0 hz0 hz1 hz2 rfl (by decide) _ _ _ rfl (jR.alloc _) ⟨w5.heap.size, 0, none⟩ 1 1 [.int .i64 k, .int .i64 k] rfl rfl (news2 _ _ _ _) (one2 _ _) (by unfold maxLen; omega) (by omega) (by simp; omega) ?_; intro v' w9 hown' hgrow _ _; rw [← pairC_up] at hown'; have kP := (jP.alloc (.cells #[.int .i64 (k : Int), .int .i64 (k : Int)] 23)).grown hgrow (fun q e => by have := hr q e; omega); have kD := (jD.alloc (.cells #[.int .i64 (k : Int), .int .i64 (k : Int)] 23)).grown hgrow (fun q e => by have := hr q e; omega); have kB := below_grown (bwA jB (Nat.le_refl _) (.cells #[.int .i64 (k : Int), .int .i64 (k : Int)] 23)) hgrow (fun q e => by have := hr q e; omega) (by simp; omega); have kZ : V.heap.size ≤ w9.heap.size := (by have := hgrow.size; simp at this; omega))
              clear hgrow jP jD jB jR zB hr
              go_roundw
              case rel => exact ⟨k + 1, _, _, _, by go_num, by omega, HSk.out, hown', kP, kD, kB, kZ⟩
              case measure => simp [intOf]; omega
        · have e2 : (c != 1) = true := by simp [hc1]
          have hst := HSk.out
          rw [if_neg (by simpa using hc1)] at hst
          replace HSk := Lib.hid hst
          clear hst hc1
          go_wp2
          go_roundw
          case rel => exact ⟨k + 1, m, A, B, by go_num, by omega, HSk.out, jR, jP, jD, jB, zB⟩
          case measure => simp [intOf]; omega
      · obtain rfl : k = 1001 := by omega
        have hlt2 : ¬ (((1001 : Nat) : Int) ≤ 1000) := by omega
        have HSk := Lib.hid hSk
        clear hSk
        go_wp2
        exact bodyPost_ret (v := .tuple #[u9, .int .i64 0]) (by simp [results, Try.results47, go_sem]) rfl ⟨u9, rfl, by rw [HSk.out]; exact pairs_of_row jR, jB⟩
  · have e4 : (x1 != 0) = true := by simpa using e1
    have hsp := HS.out
    rw [if_neg e1] at hsp
    subst hsp
    clear e1 HG HS
    go_wp2
    exact bodyPost_ret (v := .tuple #[.slice none 0 0, .int .i64 x1]) (by simp [results, Try.results47, go_sem]) rfl ⟨_, rfl, pairs_none _ _ _, jB⟩
end Go.Proofs.Ytfakmggabicdjaa

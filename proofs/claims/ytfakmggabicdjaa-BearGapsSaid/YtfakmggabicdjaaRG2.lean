/-
  The reference's Gap, whatever comes in.
-/
import Derived.Test.YtfakmggabicdjaaTail
import Derived.Test.YtfakmggabicdjaaRG1
set_option linter.unusedVariables false
set_option linter.unusedSimpArgs false
namespace Go.Proofs.Ytfakmggabicdjaa
open Go.RowKit

set_option maxRecDepth 100000 in
set_option maxHeartbeats 16000000 in
theorem rgap_any (p : Pl) (vS vC vW : Value) (th : Int) (n : Nat) (W0 W1 : Nat → Int) (w : World) (hS : TabAt w vS p.S) (hC : TabAt w vC p.C) (hw : PairsAt w vW n W0 W1) :
    Calls Try.prog 43 #[.agg #[.int .i64 p.s0, .int .i64 p.s1, vS, vC, .int .i64 p.ne, .int .i64 p.ed, .int .i64 p.gr, .int .i64 p.lo, .int .i64 p.hi, .int .i64 p.sh, .int .i64 p.wi], .int .i64 th, vW] w fun e w' => e = .returned (.tuple #[.int .i64 (gapR p th n W0 W1), .int .i64 (eGap p th n W0 W1)]) ∧ Below w.heap.size w w' := by
  obtain ⟨aS, cS, rfl, _, _, _⟩ := id hS
  obtain ⟨aC, cC, rfl, _, _, _⟩ := id hC
  obtain ⟨aW, cW, rfl, _, _, _⟩ := id hw
  have HR : Hid (∀ W, Below w.heap.size w W → Calls Try.prog 31 #[.agg #[.int .i64 p.s0, .int .i64 p.s1, (.slice aS p.S.n cS), (.slice aC p.C.n cC), .int .i64 p.ne, .int .i64 p.ed, .int .i64 p.gr, .int .i64 p.lo, .int .i64 p.hi, .int .i64 p.sh, .int .i64 p.wi]] W fun e w' => e = .returned (.int .i64 (ePl p)) ∧ Below W.heap.size W w') := fun W hW => rcheck_any p _ _ W (PairsAt.later hS hW) (PairsAt.later hC hW)
  have HL : Hid (∀ W, Below w.heap.size w W → Calls Try.prog 100 #[.slice aW n cW, .int .i64 30, .int .i64 200000] W fun e w' => e = .returned (.int .i64 (eSps 200000 n 30 W0 W1)) ∧ Below W.heap.size W w') := fun W hW => rspans_any _ n W0 W1 30 200000 W (hw.later hW)
  obtain ⟨f, hf⟩ : ∃ f : Nat → Bool, f = gapF p th n W0 W1 := ⟨_, rfl⟩
  have HG : Hid (eGap p th n W0 W1 = 0 → ∀ d : Nat, d ≤ 10000 → ∀ W, Below w.heap.size w W → Calls Try.prog 101 #[.agg #[.int .i64 p.s0, .int .i64 p.s1, (.slice aS p.S.n cS), (.slice aC p.C.n cC), .int .i64 p.ne, .int .i64 p.ed, .int .i64 p.gr, .int .i64 p.lo, .int .i64 p.hi, .int .i64 p.sh, .int .i64 p.wi], .int .i64 th, .slice aW n cW, .int .i64 d] W fun e w' => e = .returned (.bool (f d)) ∧ Below W.heap.size W w') := fun h0 d hd W hW => by
    obtain ⟨h1, h2⟩ := orE_inv h0
    obtain ⟨h3, h4⟩ := orE_inv h2
    have hs := eSps_inv h4
    rw [hf]
    exact rrow_any p (ePl_inv h1) _ _ _ th (eN_inv h3) n W0 W1 (by omega) hs.2 (d : Int) (by omega) W (PairsAt.later hS hW) (PairsAt.later hC hW) (hw.later hW)
  have HM : Hid (eGap p th n W0 W1 = 0 → ∀ i j, i ≤ j → f i = true → f j = true) := fun h0 => by
    obtain ⟨h1, h2⟩ := orE_inv h0
    obtain ⟨h3, h4⟩ := orE_inv h2
    have hs := eSps_inv h4
    rw [hf]
    exact gapF_up (ePl_inv h1) (fun i hi => by have := hs.2 i hi; omega)
  have HV : Hid (gapR p th n W0 W1 = if eGap p th n W0 W1 = 0 then (if lstV f 10001 ≤ 10000 then (lstV f 10001 : Int) else -1) else 0) := by rw [hf]; rfl
  generalize gapR p th n W0 W1 = q at HV ⊢
  obtain ⟨r, hr⟩ : ∃ r, eGap p th n W0 W1 = r := ⟨_, rfl⟩
  rw [hr] at HG HM HV ⊢
  unfold eGap at hr
  have HE1 := Lib.hid (outB_eN th 0 5000)
  obtain ⟨x2, hx2⟩ : ∃ x, eN th 0 5000 = x := ⟨_, rfl⟩
  rw [hx2] at HE1 hr
  have O1 := Lib.hid (rout_any th 0 5000)
  generalize outB th 0 5000 = o1 at O1 HE1
  generalize eSps 200000 n 30 W0 W1 = x3 at HL hr
  generalize ePl p = x1 at HR hr
  have HH := Lib.hid hr
  clear hS hC hw hf hx2 hr
  have jP := Blk.new w #[.int .i64 p.s0, .int .i64 p.s1, (.slice aS p.S.n cS), (.slice aC p.C.n cC), .int .i64 p.ne, .int .i64 p.ed, .int .i64 p.gr, .int .i64 p.lo, .int .i64 p.hi, .int .i64 p.sh, .int .i64 p.wi] 26
  have jB : Below w.heap.size w (w.alloc (.cells #[.int .i64 p.s0, .int .i64 p.s1, (.slice aS p.S.n cS), (.slice aC p.C.n cC), .int .i64 p.ne, .int .i64 p.ed, .int .i64 p.gr, .int .i64 p.lo, .int .i64 p.hi, .int .i64 p.sh, .int .i64 p.wi] 26)) := by (repeat (first | exact Below.refl _ _ | assumption | refine Below.drew ?_ | refine Below.drewN ?_ _ | refine blT ?_ | refine blU ?_))
  go_enter Try.func43, Try.ntmps43
  go_upto_region 1 with fail
  obtain ⟨c0, c1, c2, c3, c4, c5, c6, c7, c8, c9, c10⟩ := jP.c11
  have zP := jP.lt
  go_wp2_with fail
  clear c0 c1 c2 c3 c4 c5 c6 c7 c8 c9 c10 zP
  refine (HR.out _ jB).mono ?_
  rintro e w1 ⟨rfl, hb⟩
  replace jP := jP.call hb
  replace jB := bwS jB (Nat.le_refl _) hb
  clear hb HR
  by_cases e1 : x1 = 0
  · subst e1
    go_wp2_with fail
    refine (O1.out _).mono ?_
    rintro e w2 ⟨rfl, rfl⟩
    cases o1 with
    | true =>
      go_wp2
      have hr := HH.out
      have E1 := HE1.out
      simp only [if_true] at E1
      subst E1
      simp [orE] at hr
      subst hr
      have hv := HV.out
      simp at hv
      subst hv
      exact bodyPost_ret (v := .tuple #[.int .i64 0, .int .i64 2]) (by simp [results, Try.results43, go_sem]) rfl ⟨rfl, jB⟩
    | false =>
      have E1 := HE1.out
      simp only [Bool.false_eq_true, if_false] at E1
      subst E1
      clear HE1 O1
      go_wp2_with fail
      refine (HL.out _ jB).mono ?_
      rintro e w3 ⟨rfl, hb⟩
      replace jP := jP.call hb
      replace jB := bwS jB (Nat.le_refl _) hb
      clear hb HL
      have hr := HH.out
      rw [orE_eq, orE_eq] at hr
      subst hr
      clear HH
      by_cases e3 : x3 = 0
      · subst e3
        have HGn := Lib.hid (HG.out rfl)
        have HMn := Lib.hid (HM.out rfl)
        clear HG HM
        have hv := HV.out
        rw [if_pos rfl] at hv
        have HVn := Lib.hid hv
        clear hv HV
        obtain ⟨y, hy⟩ : ∃ y, f 10000 = y := ⟨_, rfl⟩
        have HC0 := HGn.out 10000 (by omega) _ jB
        rw [hy] at HC0
        have HC := Lib.hid HC0
        have HY := Lib.hid hy
        clear hy HC0
        obtain ⟨c0, c1, c2, c3, c4, c5, c6, c7, c8, c9, c10⟩ := jP.c11
        have zP := jP.lt
        go_wp2_with fail
        clear c0 c1 c2 c3 c4 c5 c6 c7 c8 c9 c10 zP
        refine HC.out.mono ?_
        rintro e w4 ⟨rfl, hb⟩
        replace jP := jP.call hb
        replace jB := bwS jB (Nat.le_refl _) hb
        clear hb HC
        cases y with
        | false =>
          go_wp2
          have hv := HVn.out
          rw [lstV_eq (k := 10001) (Nat.le_refl _) (fun q => absurd q (by omega)) (fun j hj => by
            cases e : f j with
            | false => rfl
            | true => exact absurd (HMn.out j 10000 (by omega) e) (by rw [HY.out]; simp)), if_neg (by omega)] at hv
          subst hv
          exact bodyPost_ret (v := .tuple #[.int .i64 (-1), .int .i64 0]) (by simp [results, Try.results43, go_sem]) rfl ⟨rfl, jB⟩
        | true =>
          go_wp2_with fail
          go_loopw [10, 11, 12] (fun l h _ wr => ∃ a b : Int, l = .int .i64 a ∧ h = .int .i64 b ∧ -1 ≤ a ∧ a < b ∧ b ≤ 10000 ∧ (0 ≤ a → f a.toNat = false) ∧ f b.toNat = true ∧ Blk wr w.heap.size #[.int .i64 p.s0, .int .i64 p.s1, (.slice aS p.S.n cS), (.slice aC p.C.n cC), .int .i64 p.ne, .int .i64 p.ed, .int .i64 p.gr, .int .i64 p.lo, .int .i64 p.hi, .int .i64 p.sh, .int .i64 p.wi] 26 ∧ Below w.heap.size w wr) (fun l h _ _ => (intOf h - intOf l).toNat)
          case atStart => exact ⟨-1, 10000, rfl, rfl, by omega, by omega, by omega, fun h => absurd h (by omega), HY.out, jP, jB⟩
          case round =>
            clear jP jB
            obtain ⟨a, b, rfl, rfl, ha, hab, hb0, fa, fb, jP, jB⟩ := hrel
            have HA := Lib.hid fa
            have HB := Lib.hid fb
            clear fa fb
            have ew1 : IntKind.i64.wrap (b - a) = b - a := IntWalk.i64_in _ (by omega)
            by_cases hlt : 1 < b - a
            · have ew2 : IntKind.i64.wrap (a + b) = a + b := IntWalk.i64_in _ (by omega)
              obtain ⟨d, hd⟩ : ∃ d : Nat, ((d : Nat) : Int) = (a + b) / 2 := ⟨((a + b) / 2).toNat, by omega⟩
              have ew3 : IntKind.i64.wrap ((a + b).tdiv 2) = (d : Int) := by rw [Int.tdiv_eq_ediv_of_nonneg (by omega), hd]; exact IntWalk.i64_in _ (by omega)
              have d1 : a < (d : Int) := by omega
              have d2 : (d : Int) < b := by omega
              clear hd
              obtain ⟨z, hz⟩ : ∃ z, f d = z := ⟨_, rfl⟩
              have HD0 := HGn.out d (by omega) _ jB
              rw [hz] at HD0
              have HD := Lib.hid HD0
              have HZ := Lib.hid hz
              clear hz HD0
              obtain ⟨c0, c1, c2, c3, c4, c5, c6, c7, c8, c9, c10⟩ := jP.c11
              have zP := jP.lt
              go_wp2_with fail
              clear c0 c1 c2 c3 c4 c5 c6 c7 c8 c9 c10 zP
              refine HD.out.mono ?_
              rintro e w5 ⟨rfl, hb⟩
              replace jP := jP.call hb
              replace jB := bwS jB (Nat.le_refl _) hb
              clear hb HD
              cases z with
              | true =>
                go_wp2
                go_roundw
                case rel => exact ⟨a, d, rfl, rfl, ha, d1, by omega, HA.out, by simpa using HZ.out, jP, jB⟩
                case measure => simp [intOf]; omega
              | false =>
                go_wp2
                go_roundw
                case rel => exact ⟨d, b, rfl, rfl, by omega, d2, hb0, fun _ => by simpa using HZ.out, HB.out, jP, jB⟩
                case measure => simp [intOf]; omega
            · go_wp2
              have hv := HVn.out
              obtain ⟨m, rfl⟩ : ∃ m : Nat, (m : Int) = b := ⟨b.toNat, by omega⟩
              rw [lstV_two (k := m) HMn.out (by omega) (fun _ => by simpa using HB.out) (fun j hj => by
                have q := HA.out (by omega)
                rwa [show a.toNat = j by omega] at q), if_pos (by omega)] at hv
              subst hv
              exact bodyPost_ret (v := .tuple #[.int .i64 m, .int .i64 0]) (by simp [results, Try.results43, go_sem]) rfl ⟨rfl, jB⟩
      · have e4 : (x3 != 0) = true := by simpa using e3
        have HX := Lib.hid e3
        clear e3 HG HM
        go_wp2
        have hv := HV.out
        rw [if_neg HX.out] at hv
        subst hv
        exact bodyPost_ret (v := .tuple #[.int .i64 0, .int .i64 x3]) (by simp [results, Try.results43, go_sem]) rfl ⟨rfl, jB⟩
  · have e4 : (x1 != 0) = true := by simpa using e1
    have HX := Lib.hid e1
    have hr := HH.out
    rw [orE_ne e1] at hr
    subst hr
    clear e1 HG HM HH
    go_wp2
    have hv := HV.out
    rw [if_neg HX.out] at hv
    subst hv
    exact bodyPost_ret (v := .tuple #[.int .i64 0, .int .i64 x1]) (by simp [results, Try.results43, go_sem]) rfl ⟨rfl, jB⟩
end Go.Proofs.Ytfakmggabicdjaa

/-
  The reference's Need and Stands, whatever comes in.
-/
import Derived.Test.YtfakmggabicdjaaTail
import Derived.Test.YtfakmggabicdjaaRQ1
set_option linter.unusedVariables false
set_option linter.unusedSimpArgs false
namespace Go.Proofs.Ytfakmggabicdjaa
open Go.RowKit

set_option maxRecDepth 100000 in
set_option maxHeartbeats 8000000 in
theorem rneed_any (p : Pl) (vS vC : Value) (wt mi : Int) (w : World) (hS : TabAt w vS p.S) (hC : TabAt w vC p.C) :
    Calls Try.prog 27 #[.agg #[.int .i64 p.s0, .int .i64 p.s1, vS, vC, .int .i64 p.ne, .int .i64 p.ed, .int .i64 p.gr, .int .i64 p.lo, .int .i64 p.hi, .int .i64 p.sh, .int .i64 p.wi], .int .i64 wt, .int .i64 mi] w fun e w' => e = .returned (.tuple #[.int .i64 (needR p wt mi), .int .i64 (needE p wt mi)]) ∧ Below w.heap.size w w' := by
  obtain ⟨aS, cS, rfl, _, _, _⟩ := id hS
  obtain ⟨aC, cC, rfl, _, _, _⟩ := id hC
  have HR : Hid (∀ W, Below w.heap.size w W → Calls Try.prog 31 #[.agg #[.int .i64 p.s0, .int .i64 p.s1, (.slice aS p.S.n cS), (.slice aC p.C.n cC), .int .i64 p.ne, .int .i64 p.ed, .int .i64 p.gr, .int .i64 p.lo, .int .i64 p.hi, .int .i64 p.sh, .int .i64 p.wi]] W fun e w' => e = .returned (.int .i64 (ePl p)) ∧ Below W.heap.size W w') := fun W hW => rcheck_any p _ _ W (PairsAt.later hS hW) (PairsAt.later hC hW)
  obtain ⟨f, hf⟩ : ∃ f : Nat → Bool, f = needF p wt mi := ⟨_, rfl⟩
  have HG : Hid (e3 p (eN wt 0 200000) (eN mi 0 10000) = 0 → ∀ k : Nat, k ≤ 5000 → ∀ W, Below w.heap.size w W → ∃ y, f k = decide (wt ≤ y) ∧ Calls Try.prog 73 #[.agg #[.int .i64 p.s0, .int .i64 p.s1, (.slice aS p.S.n cS), (.slice aC p.C.n cC), .int .i64 p.ne, .int .i64 p.ed, .int .i64 p.gr, .int .i64 p.lo, .int .i64 p.hi, .int .i64 p.sh, .int .i64 p.wi], .int .i64 (k : Int), .int .i64 mi] W fun e w' => e = .returned (.int .i64 y) ∧ Below W.heap.size W w') := fun h k hk W hW => by
    obtain ⟨h1, h2⟩ := orE_inv h
    obtain ⟨h3, h4⟩ := orE_inv h2
    have q3 := eN_inv h3
    have q4 := eN_inv h4
    exact ⟨_, by rw [hf]; exact rfl, rgreat_any p (ePl_inv h1) _ _ (k : Int) mi (by omega) (by omega) W (PairsAt.later hS hW) (PairsAt.later hC hW)⟩
  obtain ⟨r, hr⟩ : ∃ r, (needR p wt mi) = r := ⟨_, rfl⟩
  obtain ⟨ee, hee⟩ : ∃ ee, (needE p wt mi) = ee := ⟨_, rfl⟩
  rw [hr, hee]
  unfold e3 at HG
  unfold needR e3 at hr
  unfold needE e3 at hee
  rw [← hf] at hr hee
  clear hf
  have HL1 : Hid (∀ k, k ≤ 5000 → (∀ j, j < k → f j = false) → f k = true → lstV f 5001 = k) := fun k hk h h2 => lstV_eq (by omega) (fun _ => h2) h
  have HL2 : Hid ((∀ j, j < 5001 → f j = false) → lstV f 5001 = 5001) := fun h => lstV_eq (Nat.le_refl _) (fun q => absurd q (by omega)) h
  generalize lstV f 5001 = q at HL1 HL2 hr hee
  have HE1 := Lib.hid (outB_eN wt 0 200000)
  have HE2 := Lib.hid (outB_eN mi 0 10000)
  obtain ⟨x2, hx2⟩ : ∃ x, eN wt 0 200000 = x := ⟨_, rfl⟩
  obtain ⟨x3, hx3⟩ : ∃ x, eN mi 0 10000 = x := ⟨_, rfl⟩
  rw [hx2] at HE1 HG hr hee
  rw [hx3] at HE2 HG hr hee
  generalize ePl p = x1 at HR HG hr hee
  have O1 := Lib.hid (rout_any wt 0 200000)
  have O2 := Lib.hid (rout_any mi 0 10000)
  generalize outB wt 0 200000 = o1 at O1 HE1
  generalize outB mi 0 10000 = o2 at O2 HE2
  clear hS hC hx2 hx3
  have HH := Lib.hid (And.intro hr hee)
  clear hr hee
  have jP := Blk.new w #[.int .i64 p.s0, .int .i64 p.s1, (.slice aS p.S.n cS), (.slice aC p.C.n cC), .int .i64 p.ne, .int .i64 p.ed, .int .i64 p.gr, .int .i64 p.lo, .int .i64 p.hi, .int .i64 p.sh, .int .i64 p.wi] 26
  have jB : Below w.heap.size w (w.alloc (.cells #[.int .i64 p.s0, .int .i64 p.s1, (.slice aS p.S.n cS), (.slice aC p.C.n cC), .int .i64 p.ne, .int .i64 p.ed, .int .i64 p.gr, .int .i64 p.lo, .int .i64 p.hi, .int .i64 p.sh, .int .i64 p.wi] 26)) := by (repeat (first | exact Below.refl _ _ | assumption | refine Below.drew ?_ | refine Below.drewN ?_ _ | refine blT ?_ | refine blU ?_))
  go_enter Try.func27, Try.ntmps27
  go_upto_region 1 with fail
  obtain ⟨c0, c1, c2, c3, c4, c5, c6, c7, c8, c9, c10⟩ := jP.c11
  have zP := jP.lt
  go_wp2_with fail
  clear c0 c1 c2 c3 c4 c5 c6 c7 c8 c9 c10 zP
  refine (HR.out _ jB).mono ?_
  rintro e w1 ⟨rfl, hb⟩
  replace jP := jP.call hb
  replace jB := bwS jB (Nat.le_refl _) hb
  clear hb HR
  by_cases e1 : x1 = 0
  · subst e1
    go_wp2_with fail
    refine (O1.out _).mono ?_
    rintro e w2 ⟨rfl, rfl⟩
    cases o1 with
    | true =>
      go_wp2_with fail
      go_wp2
      obtain ⟨hr, hee⟩ := HH.out
      have E1 := HE1.out
      simp only [if_true] at E1
      subst E1
      simp [e3, orE] at hr hee
      subst hr hee
      exact bodyPost_ret (v := .tuple #[.int .i64 0, .int .i64 2]) (by simp [results, Try.results27, go_sem]) rfl ⟨rfl, jB⟩
    | false =>
      go_wp2_with fail
      refine (O2.out _).mono ?_
      rintro e w3 ⟨rfl, rfl⟩
      cases o2 with
      | true =>
        go_wp2
        obtain ⟨hr, hee⟩ := HH.out
        have E1 := HE1.out
        have E2 := HE2.out
        simp only [if_true, Bool.false_eq_true, if_false] at E1 E2
        subst E1
        subst E2
        simp [e3, orE] at hr hee
        subst hr hee
        exact bodyPost_ret (v := .tuple #[.int .i64 0, .int .i64 2]) (by simp [results, Try.results27, go_sem]) rfl ⟨rfl, jB⟩
      | false =>
        have E1 := HE1.out
        have E2 := HE2.out
        simp only [Bool.false_eq_true, if_false] at E1 E2
        subst E1
        subst E2
        have HGn := Lib.hid (HG.out rfl)
        clear HG HE1 HE2 O1 O2
        go_wp2_with fail
        go_loopw [9] (fun i wr => ∃ k : Nat, i = .int .i64 k ∧ k ≤ 5001 ∧ (∀ j, j < k → f j = false) ∧ Blk wr w.heap.size #[.int .i64 p.s0, .int .i64 p.s1, (.slice aS p.S.n cS), (.slice aC p.C.n cC), .int .i64 p.ne, .int .i64 p.ed, .int .i64 p.gr, .int .i64 p.lo, .int .i64 p.hi, .int .i64 p.sh, .int .i64 p.wi] 26 ∧ Below w.heap.size w wr) (fun i _ => 5001 - (intOf i).toNat)
        case atStart => exact ⟨0, rfl, by omega, fun j hj => by omega, jP, jB⟩
        case round =>
          clear jP jB
          obtain ⟨k, rfl, hk, hj, jP, jB⟩ := hrel
          have HJ := Lib.hid hj
          clear hj
          by_cases hlt : k ≤ 5000
          · have hlt2 : (k : Int) ≤ 5000 := by omega
            obtain ⟨y, hy, hc⟩ := HGn.out k hlt _ jB
            have HY := Lib.hid hy
            have HCk := Lib.hid hc
            clear hy hc
            obtain ⟨c0, c1, c2, c3, c4, c5, c6, c7, c8, c9, c10⟩ := jP.c11
            have zP := jP.lt
            go_wp2_with fail
            clear c0 c1 c2 c3 c4 c5 c6 c7 c8 c9 c10 zP
            refine HCk.out.mono ?_
            rintro e w5 ⟨rfl, hb⟩
            replace jP := jP.call hb
            replace jB := bwS jB (Nat.le_refl _) hb
            clear hb
            by_cases hle : wt ≤ y
            · go_wp2
              obtain ⟨hr, hee⟩ := HH.out
              have hq := HL1.out k hlt HJ.out (by rw [HY.out]; simpa using hle)
              rw [hq] at hr hee
              simp [orE, hlt] at hr hee
              subst hr hee
              exact bodyPost_ret (v := .tuple #[.int .i64 k, .int .i64 0]) (by simp [results, Try.results27, go_sem]) rfl ⟨rfl, jB⟩
            · go_wp2
              go_roundw
              case rel => exact ⟨k + 1, by go_num, by omega, fun j hj => by
                  by_cases e : j = k
                  · subst e; rw [HY.out]; simpa using hle
                  · exact HJ.out j (by omega), jP, jB⟩
              case measure => simp [intOf]; omega
          · have hlt2 : ¬ (k : Int) ≤ 5000 := by omega
            go_wp2
            obtain ⟨hr, hee⟩ := HH.out
            have hq := HL2.out (fun j hj => HJ.out j (by omega))
            rw [hq] at hr hee
            simp [orE] at hr hee
            subst hr hee
            exact bodyPost_ret (v := .tuple #[.int .i64 0, .int .i64 14]) (by simp [results, Try.results27, go_sem]) rfl ⟨rfl, jB⟩
  · have e4 : (x1 != 0) = true := by simpa using e1
    have HX := Lib.hid e1
    clear e1
    go_wp2
    obtain ⟨hr, hee⟩ := HH.out
    have q := HX.out
    simp [e3, orE, q] at hr hee
    subst hr hee
    exact bodyPost_ret (v := .tuple #[.int .i64 0, .int .i64 x1]) (by simp [results, Try.results27, go_sem]) rfl ⟨rfl, jB⟩

set_option maxRecDepth 100000 in
set_option maxHeartbeats 8000000 in
theorem rstands_any (p : Pl) (vS vC : Value) (th wt : Int) (w : World) (hS : TabAt w vS p.S) (hC : TabAt w vC p.C) :
    Calls Try.prog 29 #[.agg #[.int .i64 p.s0, .int .i64 p.s1, vS, vC, .int .i64 p.ne, .int .i64 p.ed, .int .i64 p.gr, .int .i64 p.lo, .int .i64 p.hi, .int .i64 p.sh, .int .i64 p.wi], .int .i64 th, .int .i64 wt] w fun e w' => e = .returned (.tuple #[.int .i64 (standR p th wt), .int .i64 (e3 p (eN th 0 5000) (eN wt 0 200000))]) ∧ Below w.heap.size w w' := by
  obtain ⟨aS, cS, rfl, _, _, _⟩ := id hS
  obtain ⟨aC, cC, rfl, _, _, _⟩ := id hC
  have HR : Hid (∀ W, Below w.heap.size w W → Calls Try.prog 31 #[.agg #[.int .i64 p.s0, .int .i64 p.s1, (.slice aS p.S.n cS), (.slice aC p.C.n cC), .int .i64 p.ne, .int .i64 p.ed, .int .i64 p.gr, .int .i64 p.lo, .int .i64 p.hi, .int .i64 p.sh, .int .i64 p.wi]] W fun e w' => e = .returned (.int .i64 (ePl p)) ∧ Below W.heap.size W w') := fun W hW => rcheck_any p _ _ W (PairsAt.later hS hW) (PairsAt.later hC hW)
  obtain ⟨f, hf⟩ : ∃ f : Nat → Bool, f = standF p th wt := ⟨_, rfl⟩
  have HG : Hid (e3 p (eN th 0 5000) (eN wt 0 200000) = 0 → ∀ k : Nat, k ≤ 10000 → ∀ W, Below w.heap.size w W → ∃ y, f k = decide (wt ≤ y) ∧ Calls Try.prog 73 #[.agg #[.int .i64 p.s0, .int .i64 p.s1, (.slice aS p.S.n cS), (.slice aC p.C.n cC), .int .i64 p.ne, .int .i64 p.ed, .int .i64 p.gr, .int .i64 p.lo, .int .i64 p.hi, .int .i64 p.sh, .int .i64 p.wi], .int .i64 th, .int .i64 (k : Int)] W fun e w' => e = .returned (.int .i64 y) ∧ Below W.heap.size W w') := fun h k hk W hW => by
    obtain ⟨h1, h2⟩ := orE_inv h
    obtain ⟨h3, h4⟩ := orE_inv h2
    have q3 := eN_inv h3
    have q4 := eN_inv h4
    exact ⟨_, by rw [hf]; exact rfl, rgreat_any p (ePl_inv h1) _ _ th (k : Int) (by omega) (by omega) W (PairsAt.later hS hW) (PairsAt.later hC hW)⟩
  obtain ⟨r, hr⟩ : ∃ r, (standR p th wt) = r := ⟨_, rfl⟩
  obtain ⟨ee, hee⟩ : ∃ ee, (e3 p (eN th 0 5000) (eN wt 0 200000)) = ee := ⟨_, rfl⟩
  rw [hr, hee]
  unfold e3 at HG
  unfold standR e3 at hr
  unfold e3 at hee
  rw [← hf] at hr
  clear hf
  have HL0 : Hid (lastV f 0 = -1) := rfl
  have HLs : Hid (∀ k, lastV f (k + 1) = if f k = true then (k : Int) else lastV f k) := fun k => rfl
  have HLi : Hid (∀ k, -1 ≤ lastV f k ∧ lastV f k < k) := lastV_in f
  generalize lastV f = lv at HL0 HLs HLi hr
  have HE1 := Lib.hid (outB_eN th 0 5000)
  have HE2 := Lib.hid (outB_eN wt 0 200000)
  obtain ⟨x2, hx2⟩ : ∃ x, eN th 0 5000 = x := ⟨_, rfl⟩
  obtain ⟨x3, hx3⟩ : ∃ x, eN wt 0 200000 = x := ⟨_, rfl⟩
  rw [hx2] at HE1 HG hr hee
  rw [hx3] at HE2 HG hr hee
  generalize ePl p = x1 at HR HG hr hee
  have O1 := Lib.hid (rout_any th 0 5000)
  have O2 := Lib.hid (rout_any wt 0 200000)
  generalize outB th 0 5000 = o1 at O1 HE1
  generalize outB wt 0 200000 = o2 at O2 HE2
  clear hS hC hx2 hx3
  have HH := Lib.hid (And.intro hr hee)
  clear hr hee
  have jP := Blk.new w #[.int .i64 p.s0, .int .i64 p.s1, (.slice aS p.S.n cS), (.slice aC p.C.n cC), .int .i64 p.ne, .int .i64 p.ed, .int .i64 p.gr, .int .i64 p.lo, .int .i64 p.hi, .int .i64 p.sh, .int .i64 p.wi] 26
  have jB : Below w.heap.size w (w.alloc (.cells #[.int .i64 p.s0, .int .i64 p.s1, (.slice aS p.S.n cS), (.slice aC p.C.n cC), .int .i64 p.ne, .int .i64 p.ed, .int .i64 p.gr, .int .i64 p.lo, .int .i64 p.hi, .int .i64 p.sh, .int .i64 p.wi] 26)) := by (repeat (first | exact Below.refl _ _ | assumption | refine Below.drew ?_ | refine Below.drewN ?_ _ | refine blT ?_ | refine blU ?_))
  go_enter Try.func29, Try.ntmps29
  go_upto_region 1 with fail
  obtain ⟨c0, c1, c2, c3, c4, c5, c6, c7, c8, c9, c10⟩ := jP.c11
  have zP := jP.lt
  go_wp2_with fail
  clear c0 c1 c2 c3 c4 c5 c6 c7 c8 c9 c10 zP
  refine (HR.out _ jB).mono ?_
  rintro e w1 ⟨rfl, hb⟩
  replace jP := jP.call hb
  replace jB := bwS jB (Nat.le_refl _) hb
  clear hb HR
  by_cases e1 : x1 = 0
  · subst e1
    go_wp2_with fail
    refine (O1.out _).mono ?_
    rintro e w2 ⟨rfl, rfl⟩
    cases o1 with
    | true =>
      go_wp2_with fail
      go_wp2
      obtain ⟨hr, hee⟩ := HH.out
      have E1 := HE1.out
      simp only [if_true] at E1
      subst E1
      simp [e3, orE] at hr hee
      subst hr hee
      exact bodyPost_ret (v := .tuple #[.int .i64 0, .int .i64 2]) (by simp [results, Try.results29, go_sem]) rfl ⟨rfl, jB⟩
    | false =>
      go_wp2_with fail
      refine (O2.out _).mono ?_
      rintro e w3 ⟨rfl, rfl⟩
      cases o2 with
      | true =>
        go_wp2
        obtain ⟨hr, hee⟩ := HH.out
        have E1 := HE1.out
        have E2 := HE2.out
        simp only [if_true, Bool.false_eq_true, if_false] at E1 E2
        subst E1
        subst E2
        simp [e3, orE] at hr hee
        subst hr hee
        exact bodyPost_ret (v := .tuple #[.int .i64 0, .int .i64 2]) (by simp [results, Try.results29, go_sem]) rfl ⟨rfl, jB⟩
      | false =>
        have E1 := HE1.out
        have E2 := HE2.out
        simp only [Bool.false_eq_true, if_false] at E1 E2
        subst E1
        subst E2
        have HGn := Lib.hid (HG.out rfl)
        clear HG HE1 HE2 O1 O2
        have h00 := HL0.out
        go_wp2_with fail
        go_loopw [9, 10] (fun o i wr => ∃ k : Nat, i = .int .i64 k ∧ o = .int .i64 (lv k) ∧ k ≤ 10001 ∧ Blk wr w.heap.size #[.int .i64 p.s0, .int .i64 p.s1, (.slice aS p.S.n cS), (.slice aC p.C.n cC), .int .i64 p.ne, .int .i64 p.ed, .int .i64 p.gr, .int .i64 p.lo, .int .i64 p.hi, .int .i64 p.sh, .int .i64 p.wi] 26 ∧ Below w.heap.size w wr) (fun _ i _ => 10001 - (intOf i).toNat)
        case atStart => exact ⟨0, rfl, by rw [h00], by omega, jP, jB⟩
        case round =>
          clear jP jB h00
          obtain ⟨k, rfl, rfl, hk, jP, jB⟩ := hrel
          by_cases hlt : k ≤ 10000
          · have hlt2 : (k : Int) ≤ 10000 := by omega
            obtain ⟨y, hy, hc⟩ := HGn.out k hlt _ jB
            have hn := HLs.out k
            rw [hy] at hn
            have HY := Lib.hid hn
            have HCk := Lib.hid hc
            clear hy hc hn
            obtain ⟨z1, hz1⟩ : ∃ z, lv k = z := ⟨_, rfl⟩
            rw [hz1] at HY ⊢
            clear hz1
            obtain ⟨c0, c1, c2, c3, c4, c5, c6, c7, c8, c9, c10⟩ := jP.c11
            have zP := jP.lt
            go_wp2_with fail
            clear c0 c1 c2 c3 c4 c5 c6 c7 c8 c9 c10 zP
            refine HCk.out.mono ?_
            rintro e w5 ⟨rfl, hb⟩
            replace jP := jP.call hb
            replace jB := bwS jB (Nat.le_refl _) hb
            clear hb
            by_cases hle : wt ≤ y
            · go_wp2
              go_roundw
              case rel => exact ⟨k + 1, by go_num, by rw [HY.out, if_pos (by simpa using hle)], by omega, jP, jB⟩
              case measure => simp [intOf]; omega
            · go_wp2
              go_roundw
              case rel => exact ⟨k + 1, by go_num, by rw [HY.out, if_neg (by simpa using hle)], by omega, jP, jB⟩
              case measure => simp [intOf]; omega
          · have hlt2 : ¬ (k : Int) ≤ 10000 := by omega
            obtain rfl : k = 10001 := by omega
            go_wp2
            obtain ⟨hr, hee⟩ := HH.out
            simp [orE] at hr hee
            subst hr hee
            exact bodyPost_ret (v := .tuple #[.int .i64 (lv 10001), .int .i64 0]) (by simp [results, Try.results29, go_sem]) rfl ⟨rfl, jB⟩
  · have e4 : (x1 != 0) = true := by simpa using e1
    have HX := Lib.hid e1
    clear e1
    go_wp2
    obtain ⟨hr, hee⟩ := HH.out
    have q := HX.out
    simp [e3, orE, q] at hr hee
    subst hr hee
    exact bodyPost_ret (v := .tuple #[.int .i64 0, .int .i64 x1]) (by simp [results, Try.results29, go_sem]) rfl ⟨rfl, jB⟩
end Go.Proofs.Ytfakmggabicdjaa

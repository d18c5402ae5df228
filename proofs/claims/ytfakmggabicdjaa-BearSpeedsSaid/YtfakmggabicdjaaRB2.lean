/-
  The reference's checks of plates, of roads and of loads (layer 3): what they return, whatever comes in.
-/
import Derived.Test.YtfakmggabicdjaaTail
import Derived.Test.YtfakmggabicdjaaRB1
import Derived.Test.YtfakmggabicdjaaRoadC
set_option linter.unusedVariables false
set_option linter.unusedSimpArgs false
namespace Go.Proofs.Ytfakmggabicdjaa
open Go.RowKit

theorem orE_ne {a b : Int} (h : a ≠ 0) : orE a b = a := if_neg h
theorem orE_eq (b : Int) : orE 0 b = b := if_pos rfl

set_option maxRecDepth 100000 in
set_option maxHeartbeats 8000000 in
theorem rcheck_any (p : Pl) (vS vC : Value) (w : World) (hS : TabAt w vS p.S) (hC : TabAt w vC p.C) :
    Calls Try.prog 31 #[.agg #[.int .i64 p.s0, .int .i64 p.s1, vS, vC, .int .i64 p.ne, .int .i64 p.ed, .int .i64 p.gr, .int .i64 p.lo, .int .i64 p.hi, .int .i64 p.sh, .int .i64 p.wi]] w fun e w' => e = .returned (.int .i64 (ePl p)) ∧ Below w.heap.size w w' := by
  obtain ⟨aS, cS, rfl, _, _, _⟩ := id hS
  obtain ⟨aC, cC, rfl, _, _, _⟩ := id hC
  have HT1 : Hid (∀ W, Below w.heap.size w W → Calls Try.prog 85 #[.slice aS p.S.n cS] W fun e w' => e = .returned (.int .i64 (eTab p.S.n p.S.F p.S.P)) ∧ Below W.heap.size W w') := fun W hW => rtable_any _ _ _ _ W (PairsAt.later hS hW)
  have HT2 : Hid (∀ W, Below w.heap.size w W → Calls Try.prog 85 #[.slice aC p.C.n cC] W fun e w' => e = .returned (.int .i64 (eTab p.C.n p.C.F p.C.P)) ∧ Below W.heap.size W w') := fun W hW => rtable_any _ _ _ _ W (PairsAt.later hC hW)
  have HSp : Hid (∀ W, Calls Try.prog 84 #[.agg #[.int .i64 p.s0, .int .i64 p.s1], .int .i64 1, .int .i64 100000] W fun e w' => e = .returned (.int .i64 (eS p.s0 p.s1 1 100000)) ∧ Below W.heap.size W w') := fun W => rspan_any _ _ _ _ W
  obtain ⟨r, hr⟩ : ∃ r, ePl p = r := ⟨_, rfl⟩
  rw [hr]
  unfold ePl at hr
  generalize eTab p.S.n p.S.F p.S.P = x2 at HT1 hr
  generalize eTab p.C.n p.C.F p.C.P = x3 at HT2 hr
  generalize eS p.s0 p.s1 1 100000 = x1 at HSp hr
  have jP := Blk.new w #[.int .i64 p.s0, .int .i64 p.s1, (.slice aS p.S.n cS), (.slice aC p.C.n cC), .int .i64 p.ne, .int .i64 p.ed, .int .i64 p.gr, .int .i64 p.lo, .int .i64 p.hi, .int .i64 p.sh, .int .i64 p.wi] 26
  have jB : Below w.heap.size w (w.alloc (.cells #[.int .i64 p.s0, .int .i64 p.s1, (.slice aS p.S.n cS), (.slice aC p.C.n cC), .int .i64 p.ne, .int .i64 p.ed, .int .i64 p.gr, .int .i64 p.lo, .int .i64 p.hi, .int .i64 p.sh, .int .i64 p.wi] 26)) := by (repeat (first | exact Below.refl _ _ | assumption | refine Below.drew ?_ | refine Below.drewN ?_ _ | refine blT ?_ | refine blU ?_))
  clear hS hC
  go_enter Try.func31, Try.ntmps31
  go_upto_region 1 with fail
  obtain ⟨c0, c1, c2, c3, c4, c5, c6, c7, c8, c9, c10⟩ := jP.c11
  have zP := jP.lt
  go_wp2_with fail
  clear c0 c1 c2 c3 c4 c5 c6 c7 c8 c9 c10 zP
  refine (HSp.out _).mono ?_
  rintro e w1 ⟨rfl, hb⟩
  replace jP := jP.call hb
  replace jB := bwS jB (Nat.le_refl _) hb
  clear hb HSp
  by_cases e1 : x1 = 0
  · subst e1
    rw [orE_eq] at hr
    go_upto_region 4 with fail
    obtain ⟨c0, c1, c2, c3, c4, c5, c6, c7, c8, c9, c10⟩ := jP.c11
    have zP := jP.lt
    go_wp2_with fail
    clear c0 c1 c2 c3 c4 c5 c6 c7 c8 c9 c10 zP
    refine (HT1.out _ jB).mono ?_
    rintro e w2 ⟨rfl, hb⟩
    replace jP := jP.call hb
    replace jB := bwS jB (Nat.le_refl _) hb
    clear hb HT1
    by_cases e2 : x2 = 0
    · subst e2
      rw [orE_eq] at hr
      go_upto_region 7 with fail
      obtain ⟨c0, c1, c2, c3, c4, c5, c6, c7, c8, c9, c10⟩ := jP.c11
      have zP := jP.lt
      go_wp2_with fail
      clear c0 c1 c2 c3 c4 c5 c6 c7 c8 c9 c10 zP
      refine (HT2.out _ jB).mono ?_
      rintro e w3 ⟨rfl, hb⟩
      replace jP := jP.call hb
      replace jB := bwS jB (Nat.le_refl _) hb
      clear hb HT2
      by_cases e3 : x3 = 0
      · subst e3
        rw [orE_eq] at hr
        have HR := Lib.hid hr
        clear hr
        go_upto_region 10 with fail
        cases h0 : outB p.ne 0 10000 with
        | true =>
          have hr : r = 2 := by rw [← HR.out]; simp [eN_out, eS, eR, eO, orE, h0]
          subst hr
          obtain ⟨c0, c1, c2, c3, c4, c5, c6, c7, c8, c9, c10⟩ := jP.c11
          have zP := jP.lt
          go_wp2_with (go_at_call 72; refine (rout_any _ _ _ _).mono ?_; rintro e w' ⟨rfl, rfl⟩)
          go_ret
          exact ⟨rfl, jB⟩
        | false =>
          cases h1 : outB p.ed 0 1000000 with
          | true =>
            have hr : r = 2 := by rw [← HR.out]; simp [eN_out, eS, eR, eO, orE, h0, h1]
            subst hr
            obtain ⟨c0, c1, c2, c3, c4, c5, c6, c7, c8, c9, c10⟩ := jP.c11
            have zP := jP.lt
            go_wp2_with (go_at_call 72; refine (rout_any _ _ _ _).mono ?_; rintro e w' ⟨rfl, rfl⟩)
            go_ret
            exact ⟨rfl, jB⟩
          | false =>
            cases h2 : outB p.gr 1 1000 with
            | true =>
              have hr : r = 2 := by rw [← HR.out]; simp [eN_out, eS, eR, eO, orE, h0, h1, h2]
              subst hr
              obtain ⟨c0, c1, c2, c3, c4, c5, c6, c7, c8, c9, c10⟩ := jP.c11
              have zP := jP.lt
              go_wp2_with (go_at_call 72; refine (rout_any _ _ _ _).mono ?_; rintro e w' ⟨rfl, rfl⟩)
              go_ret
              exact ⟨rfl, jB⟩
            | false =>
              cases h3 : outB p.lo 1 4000000 with
              | true =>
                have hr : r = 2 := by rw [← HR.out]; simp [eN_out, eS, eR, eO, orE, h0, h1, h2, h3]
                subst hr
                obtain ⟨c0, c1, c2, c3, c4, c5, c6, c7, c8, c9, c10⟩ := jP.c11
                have zP := jP.lt
                go_wp2_with (go_at_call 72; refine (rout_any _ _ _ _).mono ?_; rintro e w' ⟨rfl, rfl⟩)
                go_ret
                exact ⟨rfl, jB⟩
              | false =>
                cases h4 : outB p.hi 1 4000000 with
                | true =>
                  have hr : r = 2 := by rw [← HR.out]; simp [eN_out, eS, eR, eO, orE, h0, h1, h2, h3, h4]
                  subst hr
                  obtain ⟨c0, c1, c2, c3, c4, c5, c6, c7, c8, c9, c10⟩ := jP.c11
                  have zP := jP.lt
                  go_wp2_with (go_at_call 72; refine (rout_any _ _ _ _).mono ?_; rintro e w' ⟨rfl, rfl⟩)
                  go_ret
                  exact ⟨rfl, jB⟩
                | false =>
                  by_cases h5 : p.hi < p.lo
                  · have h6 : ¬ p.lo ≤ p.hi := by omega
                    have hr : r = 11 := by rw [← HR.out]; simp [eN_out, eS, eR, eO, orE, h0, h1, h2, h3, h4, h6]
                    subst hr
                    obtain ⟨c0, c1, c2, c3, c4, c5, c6, c7, c8, c9, c10⟩ := jP.c11
                    have zP := jP.lt
                    go_wp2_with (go_at_call 72; refine (rout_any _ _ _ _).mono ?_; rintro e w' ⟨rfl, rfl⟩)
                    go_ret
                    exact ⟨rfl, jB⟩
                  · have h6 : p.lo ≤ p.hi := by omega
                    cases h7 : outB p.sh 0 10000 with
                    | true =>
                      have hr : r = 2 := by rw [← HR.out]; simp [eN_out, eS, eR, eO, orE, h0, h1, h2, h3, h4, h6, h7]
                      subst hr
                      obtain ⟨c0, c1, c2, c3, c4, c5, c6, c7, c8, c9, c10⟩ := jP.c11
                      have zP := jP.lt
                      go_wp2_with (go_at_call 72; refine (rout_any _ _ _ _).mono ?_; rintro e w' ⟨rfl, rfl⟩)
                      go_ret
                      exact ⟨rfl, jB⟩
                    | false =>
                      cases h8 : outB p.wi 0 1000000 with
                      | true =>
                        have hr : r = 2 := by rw [← HR.out]; simp [eN_out, eS, eR, eO, orE, h0, h1, h2, h3, h4, h6, h7, h8]
                        subst hr
                        obtain ⟨c0, c1, c2, c3, c4, c5, c6, c7, c8, c9, c10⟩ := jP.c11
                        have zP := jP.lt
                        go_wp2_with (go_at_call 72; refine (rout_any _ _ _ _).mono ?_; rintro e w' ⟨rfl, rfl⟩)
                        go_ret
                        exact ⟨rfl, jB⟩
                      | false =>
                        have hr : r = 0 := by rw [← HR.out]; simp [eN_out, eS, eR, eO, orE, h0, h1, h2, h3, h4, h6, h7, h8]
                        subst hr
                        obtain ⟨c0, c1, c2, c3, c4, c5, c6, c7, c8, c9, c10⟩ := jP.c11
                        have zP := jP.lt
                        go_wp2_with (go_at_call 72; refine (rout_any _ _ _ _).mono ?_; rintro e w' ⟨rfl, rfl⟩)
                        go_ret
                        exact ⟨rfl, jB⟩
      · rw [orE_ne e3] at hr
        subst hr
        have e4 : (x3 != 0) = true := by simpa using e3
        clear e3
        go_wp2
        go_ret
        exact ⟨rfl, jB⟩
    · rw [orE_ne e2] at hr
      subst hr
      have e4 : (x2 != 0) = true := by simpa using e2
      clear e2
      go_wp2
      go_ret
      exact ⟨rfl, jB⟩
  · rw [orE_ne e1] at hr
    subst hr
    have e4 : (x1 != 0) = true := by simpa using e1
    clear e1
    go_wp2
    go_ret
    exact ⟨rfl, jB⟩

set_option maxRecDepth 100000 in
set_option maxHeartbeats 4000000 in
theorem rspans_any (v : Value) (n : Nat) (A B : Nat → Int) (m hi : Int) (w : World) (h : PairsAt w v n A B) :
    Calls Try.prog 100 #[v, .int .i64 m, .int .i64 hi] w fun e w' => e = .returned (.int .i64 (eSps hi n m A B)) ∧ Below w.heap.size w w' := by
  obtain ⟨a, cap, rfl, hcap, hm, h3⟩ := h
  have H3 := Lib.hid h3
  clear h3
  by_cases h20 : m < (n : Int)
  · rw [show eSps hi n m A B = 8 by unfold eSps; rw [if_pos h20]]
    go_enter Try.func100, Try.ntmps100
    go_wp2
    go_ret
    exact ⟨rfl, Below.refl _ _⟩
  obtain ⟨x, hx⟩ : ∃ x : Nat → Int, x = fun i => eS (A i) (B i) 0 hi := ⟨_, rfl⟩
  rw [show eSps hi n m A B = firstNZ x 0 n by unfold eSps; rw [if_neg h20, hx]]
  have HN0 : Hid (∀ k, k < n → (∀ j, j < k → x j = 0) → x k ≠ 0 → firstNZ x 0 n = x k) := fun k hk h hx => first_at _ n k hk h hx
  have HZ0 : Hid ((∀ j, j < n → x j = 0) → firstNZ x 0 n = 0) := fun h => first_none _ n h
  have HSp : Hid (∀ k W, Calls Try.prog 84 #[.agg #[.int .i64 (A k), .int .i64 (B k)], .int .i64 0, .int .i64 hi] W fun e w' => e = .returned (.int .i64 (x k)) ∧ Below W.heap.size W w') := fun k W => by rw [hx]; exact rspan_any _ _ _ _ W
  clear hx
  generalize firstNZ x 0 n = r at HN0 HZ0 ⊢
  go_enter Try.func100, Try.ntmps100
  go_wp2_with fail
  go_loopw [7] (fun i wr => ∃ k : Nat, k ≤ n ∧ i = .int .i64 k ∧ (∀ j, j < k → x j = 0) ∧ Below w.heap.size w wr) (fun i _ => n - (intOf i).toNat)
  case atStart => exact ⟨0, Nat.zero_le _, rfl, fun j hj => by omega, Below.refl _ _⟩
  case round =>
    obtain ⟨k, hk, rfl, hj, hB⟩ := hrel
    have HJ := Lib.hid hj
    clear hj
    by_cases hlt2 : k < n
    · obtain ⟨b, o, rfl, hc⟩ := H3.out (by omega)
      have HN := Lib.hid (HN0.out k hlt2 HJ.out)
      have HSk := Lib.hid (HSp.out k)
      have a0 := cell_later hB (hc k hlt2).1
      have a1 := cell_later hB (hc k hlt2).2
      have z0 := World.block_lt_of_cell? _ _ a0
      clear hc H3 HN0 HZ0 HSp
      generalize A k = f at a0 HSk
      generalize B k = p at a1 HSk
      obtain ⟨y, hy⟩ : ∃ y, x k = y := ⟨_, rfl⟩
      rw [hy] at HN HSk
      have HY := Lib.hid hy
      clear hy
      go_wp2_with fail
      clear a0 a1 z0
      refine (HSk.out _).mono ?_
      rintro e w1 ⟨rfl, hb⟩
      replace hB := bwS hB (Nat.le_refl _) hb
      clear hb HSk
      by_cases e1 : y = 0
      · subst e1
        clear HN
        go_wp2
        go_roundw
        case rel => exact ⟨k + 1, by omega, by go_num, fun j hj => by
            by_cases e : j = k
            · subst e; exact HY.out
            · exact HJ.out j (by omega), hB⟩
        case measure => simp [intOf]; omega
      · have hr := HN.out e1
        subst hr
        have e4 : (r != 0) = true := by simpa using e1
        clear e1 HN
        go_wp2
        go_ret
        exact ⟨rfl, hB⟩
    · have hr := HZ0.out (fun j hj => HJ.out j (by omega))
      subst hr
      go_wp2
      go_ret
      exact ⟨rfl, hB⟩

set_option maxRecDepth 100000 in
set_option maxHeartbeats 4000000 in
theorem rroad_any (p : Pl) (vS vC vI vK : Value) (ni : Nat) (I0 I1 : Nat → Int) (nc : Nat) (C0 C1 : Nat → Int) (w : World) (hS : TabAt w vS p.S) (hC : TabAt w vC p.C) (hI : PairsAt w vI ni I0 I1) (hK : PairsAt w vK nc C0 C1) :
    Calls Try.prog 89 #[.agg #[.int .i64 p.s0, .int .i64 p.s1, vS, vC, .int .i64 p.ne, .int .i64 p.ed, .int .i64 p.gr, .int .i64 p.lo, .int .i64 p.hi, .int .i64 p.sh, .int .i64 p.wi], vI, vK] w fun e w' => e = .returned (.int .i64 (eRoad p ni I0 I1 nc C0 C1)) ∧ Below w.heap.size w w' := by
  obtain ⟨aS, cS, rfl, _, _, _⟩ := id hS
  obtain ⟨aC, cC, rfl, _, _, _⟩ := id hC
  have HC1 : Hid (∀ W, Below w.heap.size w W → Calls Try.prog 31 #[.agg #[.int .i64 p.s0, .int .i64 p.s1, (.slice aS p.S.n cS), (.slice aC p.C.n cC), .int .i64 p.ne, .int .i64 p.ed, .int .i64 p.gr, .int .i64 p.lo, .int .i64 p.hi, .int .i64 p.sh, .int .i64 p.wi]] W fun e w' => e = .returned (.int .i64 (ePl p)) ∧ Below W.heap.size W w') := fun W hW => rcheck_any p _ _ W (PairsAt.later hS hW) (PairsAt.later hC hW)
  have HI1 : Hid (∀ W, Below w.heap.size w W → Calls Try.prog 100 #[vI, .int .i64 1000, .int .i64 5000] W fun e w' => e = .returned (.int .i64 (eSps 5000 ni 1000 I0 I1)) ∧ Below W.heap.size W w') := fun W hW => rspans_any _ _ _ _ _ _ W (hI.later hW)
  have HK1 : Hid (∀ W, Below w.heap.size w W → Calls Try.prog 100 #[vK, .int .i64 50, .int .i64 100000] W fun e w' => e = .returned (.int .i64 (eSps 100000 nc 50 C0 C1)) ∧ Below W.heap.size W w') := fun W hW => rspans_any _ _ _ _ _ _ W (hK.later hW)
  unfold eRoad
  generalize ePl p = x1 at HC1 ⊢
  generalize eSps 5000 ni 1000 I0 I1 = x2 at HI1 ⊢
  generalize eSps 100000 nc 50 C0 C1 = x3 at HK1 ⊢
  obtain ⟨r, hr⟩ : ∃ r, orE x1 (orE x2 x3) = r := ⟨_, rfl⟩
  rw [hr]
  have jP := Blk.new w #[.int .i64 p.s0, .int .i64 p.s1, (.slice aS p.S.n cS), (.slice aC p.C.n cC), .int .i64 p.ne, .int .i64 p.ed, .int .i64 p.gr, .int .i64 p.lo, .int .i64 p.hi, .int .i64 p.sh, .int .i64 p.wi] 26
  have jB : Below w.heap.size w (w.alloc (.cells #[.int .i64 p.s0, .int .i64 p.s1, (.slice aS p.S.n cS), (.slice aC p.C.n cC), .int .i64 p.ne, .int .i64 p.ed, .int .i64 p.gr, .int .i64 p.lo, .int .i64 p.hi, .int .i64 p.sh, .int .i64 p.wi] 26)) := by (repeat (first | exact Below.refl _ _ | assumption | refine Below.drew ?_ | refine Below.drewN ?_ _ | refine blT ?_ | refine blU ?_))
  clear hS hC hI hK
  go_enter Try.func89, Try.ntmps89
  go_upto_region 1 with fail
  obtain ⟨c0, c1, c2, c3, c4, c5, c6, c7, c8, c9, c10⟩ := jP.c11
  have zP := jP.lt
  go_wp2_with fail
  clear c0 c1 c2 c3 c4 c5 c6 c7 c8 c9 c10 zP
  refine (HC1.out _ jB).mono ?_
  rintro e w1 ⟨rfl, hb⟩
  replace jB := bwS jB (Nat.le_refl _) hb
  clear hb HC1 jP
  by_cases e1 : x1 = 0
  · subst e1
    rw [orE_eq] at hr
    go_wp2_with fail
    refine (HI1.out _ jB).mono ?_
    rintro e w2 ⟨rfl, hb⟩
    replace jB := bwS jB (Nat.le_refl _) hb
    clear hb HI1
    by_cases e2 : x2 = 0
    · subst e2
      rw [orE_eq] at hr
      subst hr
      go_wp2_with fail
      refine (HK1.out _ jB).mono ?_
      rintro e w3 ⟨rfl, hb⟩
      replace jB := bwS jB (Nat.le_refl _) hb
      clear hb HK1
      go_wp2
      go_ret
      exact ⟨rfl, jB⟩
    · rw [orE_ne e2] at hr
      subst hr
      have e4 : (x2 != 0) = true := by simpa using e2
      clear e2
      go_wp2
      go_ret
      exact ⟨rfl, jB⟩
  · rw [orE_ne e1] at hr
    subst hr
    have e4 : (x1 != 0) = true := by simpa using e1
    clear e1
    go_wp2
    go_ret
    exact ⟨rfl, jB⟩

theorem eI_out (n m : Int) : eI n m = if outB n 0 (m - 1) then 7 else 0 := by
  unfold eI outB
  by_cases h1 : n < 0
  · simp [h1]
  · by_cases h2 : m ≤ n
    · rw [if_pos (.inr h2), if_pos (by simp [h1]; omega)]
    · rw [if_neg (by omega), if_neg (by simp [h1]; omega)]

set_option maxRecDepth 100000 in
set_option maxHeartbeats 4000000 in
theorem rloads_any (places : Nat) (hp : places ≤ 1000) (v : Value) (n : Nat) (L : Nat → Ld) (w : World) (h : LoadsAt w v n L) :
    Calls Try.prog 90 #[.int .i64 places, v] w fun e w' => e = .returned (.int .i64 (eLds (100 * (places : Int)) n L)) ∧ Below w.heap.size w w' := by
  obtain ⟨a, cap, rfl, hcap, hm, h3⟩ := h
  have H3 := Lib.hid h3
  clear h3
  by_cases h20 : 30 < n
  · rw [show eLds (100 * (places : Int)) n L = 8 by unfold eLds; rw [if_pos h20]]
    have h21 : (30 : Int) < (n : Int) := by omega
    go_enter Try.func90, Try.ntmps90
    go_wp2
    go_ret
    exact ⟨rfl, Below.refl _ _⟩
  have h21 : ¬ (30 : Int) < (n : Int) := by omega
  obtain ⟨pm, hpm⟩ : ∃ pm, 100 * (places : Int) - 1 = pm := ⟨_, rfl⟩
  have ew1 : IntKind.i64.wrap (100 * (places : Int)) = 100 * (places : Int) := IntWalk.i64_in _ (by omega)
  have ew2 : IntKind.i64.wrap (100 * (places : Int) - 1) = pm := by rw [hpm]; exact IntWalk.i64_in _ (by omega)
  obtain ⟨x, hx⟩ : ∃ x : Nat → Int, x = fun i => eLd (100 * (places : Int)) (L i) := ⟨_, rfl⟩
  rw [show eLds (100 * (places : Int)) n L = firstNZ x 0 n by unfold eLds; rw [if_neg h20, hx]]
  have HN0 : Hid (∀ k, k < n → (∀ j, j < k → x j = 0) → x k ≠ 0 → firstNZ x 0 n = x k) := fun k hk h hx => first_at _ n k hk h hx
  have HZ0 : Hid ((∀ j, j < n → x j = 0) → firstNZ x 0 n = 0) := fun h => first_none _ n h
  have HX : Hid (∀ k, x k = orE (if outB (L k).me 0 pm then 7 else 0) (orE (eS (L k).w0 (L k).w1 0 200000) (if outB (L k).st 0 10000 then 2 else 0))) := fun k => by rw [hx]; simp only [eLd, eI_out, eN_out, hpm]
  clear hx hpm h20
  generalize firstNZ x 0 n = r at HN0 HZ0 ⊢
  go_enter Try.func90, Try.ntmps90
  go_wp2_with fail
  go_loopw [5] (fun i wr => ∃ k : Nat, k ≤ n ∧ i = .int .i64 k ∧ (∀ j, j < k → x j = 0) ∧ Below w.heap.size w wr) (fun i _ => n - (intOf i).toNat)
  case atStart => exact ⟨0, Nat.zero_le _, rfl, fun j hj => by omega, Below.refl _ _⟩
  case round =>
    obtain ⟨k, hk, rfl, hj, hB⟩ := hrel
    have HJ := Lib.hid hj
    clear hj
    by_cases hlt2 : k < n
    · obtain ⟨b, o, rfl, hc⟩ := H3.out (by omega)
      have HN := Lib.hid (HN0.out k hlt2 HJ.out)
      have HC := Lib.hid (hc k hlt2)
      have HXk := Lib.hid (HX.out k)
      have HSp : Hid (∀ W, Calls Try.prog 84 #[.agg #[.int .i64 (L k).w0, .int .i64 (L k).w1], .int .i64 0, .int .i64 200000] W fun e w' => e = .returned (.int .i64 (eS (L k).w0 (L k).w1 0 200000)) ∧ Below W.heap.size W w') := fun W => rspan_any _ _ _ _ W
      clear hc H3 HN0 HZ0 HX
      generalize eS (L k).w0 (L k).w1 0 200000 = s at HXk HSp
      obtain ⟨y, hy⟩ : ∃ y, x k = y := ⟨_, rfl⟩
      rw [hy] at HN HXk
      have HY := Lib.hid hy
      clear hy
      generalize (L k).me = me at HC HXk
      generalize (L k).w0 = w0 at HC HSp
      generalize (L k).w1 = w1 at HC HSp
      generalize (L k).st = st at HC HXk
      have a0 := cell_later hB HC.out.1
      have z0 := World.block_lt_of_cell? _ _ a0
      cases h1 : outB me 0 pm with
      | true =>
        have hy : y = 7 := by rw [HXk.out]; simp [h1, orE]
        have hr := HN.out (by omega)
        rw [hy] at hr
        subst hr
        go_wp2_with (go_at_call 72; refine (rout_any _ _ _ _).mono ?_; rintro e w' ⟨rfl, rfl⟩)
        go_ret
        exact ⟨rfl, hB⟩
      | false =>
        have hy : y = orE s (if outB st 0 10000 then 2 else 0) := by rw [HXk.out]; simp [h1, orE]
        have HY2 := Lib.hid hy
        clear hy HXk
        go_upto_region 8 with (go_at_call 72; refine (rout_any _ _ _ _).mono ?_; rintro e w' ⟨rfl, rfl⟩)
        clear a0 z0
        have a1 := cell_later hB HC.out.2.1
        have a2 := cell_later hB HC.out.2.2.1
        have z0 := World.block_lt_of_cell? _ _ a1
        go_wp2_with fail
        clear a1 a2 z0
        refine (HSp.out _).mono ?_
        rintro e w1 ⟨rfl, hb⟩
        replace hB := bwS hB (Nat.le_refl _) hb
        clear hb HSp
        by_cases e1 : s = 0
        · subst e1
          have hy := HY2.out
          rw [orE_eq] at hy
          have HY2 := Lib.hid hy
          clear hy
          have a3 := cell_later hB HC.out.2.2.2
          have z0 := World.block_lt_of_cell? _ _ a3
          cases h2 : outB st 0 10000 with
          | true =>
            have hy : y = 2 := by rw [HY2.out]; simp [h2]
            have hr := HN.out (by omega)
            rw [hy] at hr
            subst hr
            go_wp2_with (go_at_call 72; refine (rout_any _ _ _ _).mono ?_; rintro e w' ⟨rfl, rfl⟩)
            go_ret
            exact ⟨rfl, hB⟩
          | false =>
            have hy : y = 0 := by rw [HY2.out]; simp [h2]
            go_wp2_with (go_at_call 72; refine (rout_any _ _ _ _).mono ?_; rintro e w' ⟨rfl, rfl⟩)
            go_roundw
            case rel => exact ⟨k + 1, by omega, by go_num, fun j hj => by
                by_cases e : j = k
                · subst e; rw [HY.out]; exact hy
                · exact HJ.out j (by omega), hB⟩
            case measure => simp [intOf]; omega
        · have hy := HY2.out
          rw [orE_ne e1] at hy
          have hr := HN.out (by omega)
          rw [hy] at hr
          subst hr
          have e4 : (r != 0) = true := by simpa using e1
          clear e1 HN
          go_wp2
          go_ret
          exact ⟨rfl, hB⟩
    · have hr := HZ0.out (fun j hj => HJ.out j (by omega))
      subst hr
      go_wp2
      go_ret
      exact ⟨rfl, hB⟩
end Go.Proofs.Ytfakmggabicdjaa

/-
  bear.Lane and the reference's Lane, whatever comes in: the same errors, the same verdicts.
-/
import Derived.Test.YtfakmggabicdjaaTail
import Derived.Test.YtfakmggabicdjaaRB6
import Derived.Test.YtfakmggabicdjaaBPla
set_option linter.unusedVariables false
set_option linter.unusedSimpArgs false
namespace Go.Proofs.Ytfakmggabicdjaa
open Go.RowKit

def hLn (p : Pl) (ni : Nat) (I0 I1 : Nat → Int) (nc : Nat) (C0 C1 : Nat → Int) (w0 w1 : Int) : Int := orE (eRoad p ni I0 I1 nc C0 C1) (eS w0 w1 0 200000)

set_option maxRecDepth 100000 in
set_option maxHeartbeats 4000000 in
theorem lane_any (p : Pl) (vS vC vI vK : Value) (ni : Nat) (I0 I1 : Nat → Int) (nc : Nat) (C0 C1 : Nat → Int) (w0 w1 : Int) (w : World)
    (hS : TabAt w vS p.S) (hC : TabAt w vC p.C) (hI : PairsAt w vI ni I0 I1) (hK : PairsAt w vK nc C0 C1) :
    Calls Try.prog 39 #[.agg #[.int .i64 p.s0, .int .i64 p.s1, vS, vC, .int .i64 p.ne, .int .i64 p.ed, .int .i64 p.gr, .int .i64 p.lo, .int .i64 p.hi, .int .i64 p.sh, .int .i64 p.wi], vI, vK, .agg #[.int .i64 w0, .int .i64 w1]] w fun e w' => ∃ u, e = .returned (.tuple #[u, .int .i64 (hLn p ni I0 I1 nc C0 C1 w0 w1)]) ∧ IntsAt w' u (if (hLn p ni I0 I1 nc C0 C1 w0 w1) = 0 then ni else 0) (fun pl => commV (laneV p I0 I1 nc C0 C1 w0 w1 pl) 100) ∧ Below w.heap.size w w' := by
  by_cases h0 : hLn p ni I0 I1 nc C0 C1 w0 w1 = 0
  · rw [h0, if_pos rfl]
    obtain ⟨h1, h2⟩ := orE_inv h0
    obtain ⟨hp, hni, hi, hnc, hc⟩ := eRoad_inv h1
    exact (lane_valid hp hni hi hnc hc (eS_inv h2) vS vC vI vK w hS hC hI hK).mono fun e w' ⟨v, he, hr, hb⟩ => ⟨v, he, ints_of_row hr, hb⟩
  · rw [if_neg h0]
    obtain ⟨r, hr⟩ : ∃ r, hLn p ni I0 I1 nc C0 C1 w0 w1 = r := ⟨_, rfl⟩
    rw [hr] at h0 ⊢
    unfold hLn at hr
    obtain ⟨aS, cS, rfl, _, _, _⟩ := id hS
    obtain ⟨aC, cC, rfl, _, _, _⟩ := id hC
    obtain ⟨aI, cI, rfl, _, _, _⟩ := id hI
    obtain ⟨aK, cK, rfl, _, _, _⟩ := id hK
    have HR : Hid (∀ W, Below w.heap.size w W → Calls Try.prog 86 #[.agg #[.int .i64 p.s0, .int .i64 p.s1, (.slice aS p.S.n cS), (.slice aC p.C.n cC), .int .i64 p.ne, .int .i64 p.ed, .int .i64 p.gr, .int .i64 p.lo, .int .i64 p.hi, .int .i64 p.sh, .int .i64 p.wi], .slice aI ni cI, .slice aK nc cK] W fun e w' => e = .returned (.int .i64 (eRoad p ni I0 I1 nc C0 C1)) ∧ Below W.heap.size W w') := fun W hW => road_any p _ _ _ _ ni I0 I1 nc C0 C1 W (PairsAt.later hS hW) (PairsAt.later hC hW) (hI.later hW) (hK.later hW)
    have HW : Hid (∀ W, Calls Try.prog 92 #[.agg #[.int .i64 w0, .int .i64 w1]] W fun e w' => e = .returned (.int .i64 (eS w0 w1 0 200000)) ∧ Below W.heap.size W w') := fun W => weight_any w0 w1 W
    generalize eRoad p ni I0 I1 nc C0 C1 = x1 at HR hr
    generalize eS w0 w1 0 200000 = x2 at HW hr
    have HE := Lib.hid hr
    have e1 : (r != 0) = true := by simpa using h0
    have jP := (((Blk.new w #[.int .i64 p.s0, .int .i64 p.s1, (.slice aS p.S.n cS), (.slice aC p.C.n cC), .int .i64 p.ne, .int .i64 p.ed, .int .i64 p.gr, .int .i64 p.lo, .int .i64 p.hi, .int .i64 p.sh, .int .i64 p.wi] 26).alloc (.cells #[.slice aI ni cI] 42)).alloc (.cells #[.slice aK nc cK] 42)).alloc (.cells #[.int .i64 w0, .int .i64 w1] 23)
    have jI := ((Blk.new1 w (.cells #[.int .i64 p.s0, .int .i64 p.s1, (.slice aS p.S.n cS), (.slice aC p.C.n cC), .int .i64 p.ne, .int .i64 p.ed, .int .i64 p.gr, .int .i64 p.lo, .int .i64 p.hi, .int .i64 p.sh, .int .i64 p.wi] 26) #[.slice aI ni cI] 42).alloc (.cells #[.slice aK nc cK] 42)).alloc (.cells #[.int .i64 w0, .int .i64 w1] 23)
    have jK := (Blk.new2 w (.cells #[.int .i64 p.s0, .int .i64 p.s1, (.slice aS p.S.n cS), (.slice aC p.C.n cC), .int .i64 p.ne, .int .i64 p.ed, .int .i64 p.gr, .int .i64 p.lo, .int .i64 p.hi, .int .i64 p.sh, .int .i64 p.wi] 26) (.cells #[.slice aI ni cI] 42) #[.slice aK nc cK] 42).alloc (.cells #[.int .i64 w0, .int .i64 w1] 23)
    have jW := Blk.new3 w (.cells #[.int .i64 p.s0, .int .i64 p.s1, (.slice aS p.S.n cS), (.slice aC p.C.n cC), .int .i64 p.ne, .int .i64 p.ed, .int .i64 p.gr, .int .i64 p.lo, .int .i64 p.hi, .int .i64 p.sh, .int .i64 p.wi] 26) (.cells #[.slice aI ni cI] 42) (.cells #[.slice aK nc cK] 42) #[.int .i64 w0, .int .i64 w1] 23
    have jB : Below w.heap.size w ((((w.alloc (.cells #[.int .i64 p.s0, .int .i64 p.s1, (.slice aS p.S.n cS), (.slice aC p.C.n cC), .int .i64 p.ne, .int .i64 p.ed, .int .i64 p.gr, .int .i64 p.lo, .int .i64 p.hi, .int .i64 p.sh, .int .i64 p.wi] 26)).alloc (.cells #[.slice aI ni cI] 42)).alloc (.cells #[.slice aK nc cK] 42)).alloc (.cells #[.int .i64 w0, .int .i64 w1] 23)) := by (repeat (first | exact Below.refl _ _ | assumption | refine Below.drew ?_ | refine Below.drewN ?_ _ | refine blT ?_ | refine blU ?_))
    clear hS hC hI hK hr h0
    go_enter Try.func39, Try.ntmps39
    go_wp2_with fail
    refine wp_region_held_drew (S := (fun w' => Blk w' w.heap.size #[.int .i64 p.s0, .int .i64 p.s1, (.slice aS p.S.n cS), (.slice aC p.C.n cC), .int .i64 p.ne, .int .i64 p.ed, .int .i64 p.gr, .int .i64 p.lo, .int .i64 p.hi, .int .i64 p.sh, .int .i64 p.wi] 26 ∧ Blk w' (w.heap.size + 1) #[.slice aI ni cI] 42 ∧ Blk w' (w.heap.size + 1 + 1) #[.slice aK nc cK] 42 ∧ Blk w' (w.heap.size + 1 + 1 + 1) #[.int .i64 w0, .int .i64 w1] 23 ∧ Below w.heap.size w w')) (by kernel_rfl) ?_ (fun hH => ?_)
    · (try dsimp only); (exact ⟨jP.drew, jI.drew, jK.drew, jW.drew, jB.drew⟩)
    refine tkY 0 (some 13) ?_ ?_ ?_
    rotate_left
    · intro w hS0; (try dsimp only at hS0); obtain ⟨kp, ki, kk, kw, _⟩ := hS0; obtain ⟨c0, c1, c2, c3, c4, c5, c6, c7, c8, c9, c10⟩ := kp.c11; have g1 := ki.cell1; have g2 := kk.cell1; obtain ⟨g3, g4⟩ := kw.c2; have y1 := kp.lt; have y2 := ki.lt; have y3 := kk.lt; have y4 := kw.lt;go_simp; (try with_reducible rfl)
    (try simp only [cq])
    refine tkY 1 (some 14) ?_ ?_ ?_
    rotate_left
    · intro w hS0; (try dsimp only at hS0); obtain ⟨kp, ki, kk, kw, _⟩ := hS0; obtain ⟨c0, c1, c2, c3, c4, c5, c6, c7, c8, c9, c10⟩ := kp.c11; have g1 := ki.cell1; have g2 := kk.cell1; obtain ⟨g3, g4⟩ := kw.c2; have y1 := kp.lt; have y2 := ki.lt; have y3 := kk.lt; have y4 := kw.lt;go_simp; (try with_reducible rfl)
    (try simp only [cq])
    refine tkY 2 (some 15) ?_ ?_ ?_
    rotate_left
    · intro w hS0; (try dsimp only at hS0); obtain ⟨kp, ki, kk, kw, _⟩ := hS0; obtain ⟨c0, c1, c2, c3, c4, c5, c6, c7, c8, c9, c10⟩ := kp.c11; have g1 := ki.cell1; have g2 := kk.cell1; obtain ⟨g3, g4⟩ := kw.c2; have y1 := kp.lt; have y2 := ki.lt; have y3 := kk.lt; have y4 := kw.lt;go_simp; (try with_reducible rfl)
    (try simp only [cq])
    refine tkY 4 (some 17) ?_ ?_ ?_
    rotate_left
    · intro w hS0; (try dsimp only at hS0); obtain ⟨kp, ki, kk, kw, _⟩ := hS0; obtain ⟨c0, c1, c2, c3, c4, c5, c6, c7, c8, c9, c10⟩ := kp.c11; have g1 := ki.cell1; have g2 := kk.cell1; obtain ⟨g3, g4⟩ := kw.c2; have y1 := kp.lt; have y2 := ki.lt; have y3 := kk.lt; have y4 := kw.lt;go_simp; (try with_reducible rfl)
    (try simp only [cq])
    refine wpAnyH_ready (rs := [3]) (by kernel_rfl) (by simp) ?_
    refine arc1 (some 16) fun K hK => ?_
    go_simp
    (refine (HR.out _ hH.2.2.2.2).mono ?_; rintro e w' ⟨rfl, hb⟩)
    refine hK.out _ _ ?_ ?_
    · (exact ⟨hH.1.call hb, hH.2.1.call hb, hH.2.2.1.call hb, hH.2.2.2.1.call hb, bwS hH.2.2.2.2 (Nat.le_refl _) hb⟩)
    (try clear hH); (try clear hb)
    intro hH
    clear hK K
    (try simp only [cq])
    refine wpAnyH_ready (rs := [5]) (by kernel_rfl) (by simp) ?_
    refine arc1 (some 18) fun K hK => ?_
    go_simp
    (refine (HW.out _).mono ?_; rintro e w' ⟨rfl, hb⟩)
    refine hK.out _ _ ?_ ?_
    · (exact ⟨hH.1.call hb, hH.2.1.call hb, hH.2.2.1.call hb, hH.2.2.2.1.call hb, bwS hH.2.2.2.2 (Nat.le_refl _) hb⟩)
    (try clear hH); (try clear hb)
    intro hH
    clear hK K
    (try simp only [cq])
    refine wpAnyH_ready (rs := [6]) (by kernel_rfl) (by simp) ?_
    refine arc1 (some 19) fun K hK => ?_
    go_simp
    refine hK.out _ _ ?_ ?_
    · exact ⟨hH.1.alloc _, hH.2.1.alloc _, hH.2.2.1.alloc _, hH.2.2.2.1.alloc _, bwA hH.2.2.2.2 (Nat.le_refl _) _⟩
    (try clear hH); (try clear hb)
    intro hH
    clear hK K
    (try simp only [cq])
    refine wpAnyH_ready (rs := [7]) (by kernel_rfl) (by simp) ?_
    refine arc1 (some 20) fun K hK => ?_
    go_simp
    (refine (first_two _ _ x1 x2 _ (by simp) (by simp)).mono ?_; rw [HE.out]; rintro e w' ⟨rfl, rfl⟩)
    refine hK.out _ _ ?_ ?_
    · exact hH
    (try clear hH); (try clear hb)
    intro hH
    clear hK K
    (try simp only [cq])
    refine tkY 8 (some 10) ?_ ?_ ?_
    rotate_left
    · intro w _; go_simp; (try with_reducible rfl)
    (try simp only [cq])
    refine wpAnyH_done (by kernel_rfl) ?_ _
    (try dsimp only [Act.put])
    (try simp only [cq])
    clear jP jI jK jW jB HR HW
    obtain ⟨jP, jI, jK, jW, jB⟩ := hH
    clear jP jI jK jW
    go_wp2
    exact bodyPost_ret (v := .tuple #[.slice none 0 0, .int .i64 r]) (by simp [results, Try.results39, go_sem]) rfl ⟨_, rfl, (ints_nil _ _), jB⟩

set_option maxRecDepth 100000 in
set_option maxHeartbeats 8000000 in
theorem rlane_any (p : Pl) (vS vC vI vK : Value) (ni : Nat) (I0 I1 : Nat → Int) (nc : Nat) (C0 C1 : Nat → Int) (w0 w1 : Int) (w : World)
    (hS : TabAt w vS p.S) (hC : TabAt w vC p.C) (hI : PairsAt w vI ni I0 I1) (hK : PairsAt w vK nc C0 C1) :
    Calls Try.prog 40 #[.agg #[.int .i64 p.s0, .int .i64 p.s1, vS, vC, .int .i64 p.ne, .int .i64 p.ed, .int .i64 p.gr, .int .i64 p.lo, .int .i64 p.hi, .int .i64 p.sh, .int .i64 p.wi], vI, vK, .agg #[.int .i64 w0, .int .i64 w1]] w fun e w' => ∃ u, e = .returned (.tuple #[u, .int .i64 (hLn p ni I0 I1 nc C0 C1 w0 w1)]) ∧ IntsAt w' u (if (hLn p ni I0 I1 nc C0 C1 w0 w1) = 0 then ni else 0) (fun pl => commV (laneV p I0 I1 nc C0 C1 w0 w1 pl) 100) ∧ Below w.heap.size w w' := by
  obtain ⟨aS, cS, rfl, _, _, _⟩ := id hS
  obtain ⟨aC, cC, rfl, _, _, _⟩ := id hC
  obtain ⟨aI, cI, rfl, _, _, _⟩ := id hI
  obtain ⟨aK, cK, rfl, _, _, _⟩ := id hK
  have HR : Hid (∀ W, Below w.heap.size w W → Calls Try.prog 89 #[.agg #[.int .i64 p.s0, .int .i64 p.s1, (.slice aS p.S.n cS), (.slice aC p.C.n cC), .int .i64 p.ne, .int .i64 p.ed, .int .i64 p.gr, .int .i64 p.lo, .int .i64 p.hi, .int .i64 p.sh, .int .i64 p.wi], .slice aI ni cI, .slice aK nc cK] W fun e w' => e = .returned (.int .i64 (eRoad p ni I0 I1 nc C0 C1)) ∧ Below W.heap.size W w') := fun W hW => rroad_any p _ _ _ _ ni I0 I1 nc C0 C1 W (PairsAt.later hS hW) (PairsAt.later hC hW) (hI.later hW) (hK.later hW)
  have HW : Hid (∀ W, Calls Try.prog 84 #[.agg #[.int .i64 w0, .int .i64 w1], .int .i64 0, .int .i64 200000] W fun e w' => e = .returned (.int .i64 (eS w0 w1 0 200000)) ∧ Below W.heap.size W w') := fun W => rspan_any w0 w1 0 200000 W
  have HXd : Hid (∀ k, (fun pl => commV (laneV p I0 I1 nc C0 C1 w0 w1 pl) 100) k = commV (laneV p I0 I1 nc C0 C1 w0 w1 k) 100) := fun k => rfl
  generalize (fun pl => commV (laneV p I0 I1 nc C0 C1 w0 w1 pl) 100) = X at HXd ⊢
  have HV : Hid (eRoad p ni I0 I1 nc C0 C1 = 0 → eS w0 w1 0 200000 = 0 → ∀ k j : Nat, k < ni → j < 100 → ∀ W vL, Below w.heap.size w W → LoadsAt W vL 1 (fun _ => laneX w0 w1 k j) → Calls Try.prog 91 #[.agg #[.int .i64 p.s0, .int .i64 p.s1, (.slice aS p.S.n cS), (.slice aC p.C.n cC), .int .i64 p.ne, .int .i64 p.ed, .int .i64 p.gr, .int .i64 p.lo, .int .i64 p.hi, .int .i64 p.sh, .int .i64 p.wi], .slice aI ni cI, .slice aK nc cK, vL, .int .i64 0] W fun e w' => e = .returned (.int .i64 (laneV p I0 I1 nc C0 C1 w0 w1 k j)) ∧ Below W.heap.size W w') := fun h1 h2 k j hk hj W vL hW hv => by
    obtain ⟨hp, hni, hi, hnc, hc⟩ := eRoad_inv h1
    have hs := eS_inv h2
    exact rverdict_any p _ _ _ _ _ ni I0 I1 nc C0 C1 1 (fun _ => laneX w0 w1 k j) hp hni hi (fun j hj => by have := hc j hj; omega) ⟨by decide, fun i hi => ⟨hs.1, hs.2.1, hs.2.2, by simp only [laneX]; omega, by simp only [laneX]; omega, Int.le_refl _⟩⟩ 0 (by decide) (by simp only [laneX]; omega) W (PairsAt.later hS hW) (PairsAt.later hC hW) (hI.later hW) (hK.later hW) hv
  have HN : Hid (eRoad p ni I0 I1 nc C0 C1 = 0 → ni ≤ 1000) := fun h => (eRoad_inv h).2.1
  obtain ⟨r, hr⟩ : ∃ r, hLn p ni I0 I1 nc C0 C1 w0 w1 = r := ⟨_, rfl⟩
  rw [hr]
  unfold hLn at hr
  generalize eRoad p ni I0 I1 nc C0 C1 = x1 at HR HV HN hr
  generalize eS w0 w1 0 200000 = x2 at HW HV hr
  clear hS hC hI hK
  have jP := (Blk.new w #[.int .i64 p.s0, .int .i64 p.s1, (.slice aS p.S.n cS), (.slice aC p.C.n cC), .int .i64 p.ne, .int .i64 p.ed, .int .i64 p.gr, .int .i64 p.lo, .int .i64 p.hi, .int .i64 p.sh, .int .i64 p.wi] 26).alloc (.cells #[.int .i64 w0, .int .i64 w1] 23)
  have jW := Blk.new1 w (.cells #[.int .i64 p.s0, .int .i64 p.s1, (.slice aS p.S.n cS), (.slice aC p.C.n cC), .int .i64 p.ne, .int .i64 p.ed, .int .i64 p.gr, .int .i64 p.lo, .int .i64 p.hi, .int .i64 p.sh, .int .i64 p.wi] 26) #[.int .i64 w0, .int .i64 w1] 23
  have jB : Below w.heap.size w ((w.alloc (.cells #[.int .i64 p.s0, .int .i64 p.s1, (.slice aS p.S.n cS), (.slice aC p.C.n cC), .int .i64 p.ne, .int .i64 p.ed, .int .i64 p.gr, .int .i64 p.lo, .int .i64 p.hi, .int .i64 p.sh, .int .i64 p.wi] 26)).alloc (.cells #[.int .i64 w0, .int .i64 w1] 23)) := by (repeat (first | exact Below.refl _ _ | assumption | refine Below.drew ?_ | refine Below.drewN ?_ _ | refine blT ?_ | refine blU ?_))
  go_enter Try.func40, Try.ntmps40
  go_upto_region 1 with fail
  obtain ⟨bP, hbP⟩ : ∃ b, w.heap.size = b := ⟨_, rfl⟩
  obtain ⟨bW, hbW⟩ : ∃ b, bP + 1 = b := ⟨_, rfl⟩
  obtain ⟨BB, hBB⟩ : ∃ b, bW + 1 = b := ⟨_, rfl⟩
  rw [hbP] at jP jW
  (try rw [hbP])
  rw [hbW] at jW
  (try rw [hbW])
  have zwB : w.heap.size ≤ BB := by omega
  have zPB : bP < BB := by omega
  have zWB : bW < BB := by omega
  have HBB := Lib.hid hBB
  clear hbP hbW hBB
  generalize (w.alloc (.cells #[.int .i64 p.s0, .int .i64 p.s1, (.slice aS p.S.n cS), (.slice aC p.C.n cC), .int .i64 p.ne, .int .i64 p.ed, .int .i64 p.gr, .int .i64 p.lo, .int .i64 p.hi, .int .i64 p.sh, .int .i64 p.wi] 26)).alloc (.cells #[.int .i64 w0, .int .i64 w1] 23) = V at jP jW jB ⊢
  obtain ⟨c0, c1, c2, c3, c4, c5, c6, c7, c8, c9, c10⟩ := jP.c11
  have zP := jP.lt
  go_wp2_with fail
  clear c0 c1 c2 c3 c4 c5 c6 c7 c8 c9 c10 zP
  refine (HR.out _ jB).mono ?_
  rintro e wa ⟨rfl, hb⟩
  replace jP := jP.call hb
  replace jW := jW.call hb
  replace jB := bwS jB (Nat.le_refl _) hb
  clear hb HR
  by_cases e1 : x1 = 0
  · subst e1
    rw [orE_eq] at hr
    subst hr
    have hni := HN.out rfl
    have HVn := Lib.hid (HV.out rfl)
    clear HV HN
    obtain ⟨g0, g1⟩ := jW.c2
    have zW := jW.lt
    go_wp2_with fail
    clear g0 g1 zW
    refine (HW.out _).mono ?_
    rintro e wb ⟨rfl, hb⟩
    replace jP := jP.call hb
    replace jW := jW.call hb
    replace jB := bwS jB (Nat.le_refl _) hb
    clear hb HW
    by_cases e2 : x2 = 0
    · subst e2
      have HVk := Lib.hid (HVn.out rfl)
      clear HVn
      have zB : BB ≤ wb.heap.size := by rw [← HBB.out]; exact jW.lt
      have jR := World.ownsRow_nil wb BB 3 1
      obtain ⟨i0, hi0, hz0, hz1, hz2⟩ := info_parts Try.infoInt
      go_wp2_with fail
      go_loopw [12, 13] (fun l i wr => ∃ k : Nat, k ≤ ni ∧ i = .int .i64 k ∧ Blk wr bP #[.int .i64 p.s0, .int .i64 p.s1, (.slice aS p.S.n cS), (.slice aC p.C.n cC), .int .i64 p.ne, .int .i64 p.ed, .int .i64 p.gr, .int .i64 p.lo, .int .i64 p.hi, .int .i64 p.sh, .int .i64 p.wi] 26 ∧ Blk wr bW #[.int .i64 w0, .int .i64 w1] 23 ∧ Below w.heap.size w wr ∧ wr.ownsRow BB 3 1 l k (catC (intC X) k) ∧ BB ≤ wr.heap.size) (fun _ i _ => ni - (intOf i).toNat)
      case atStart => exact ⟨0, Nat.zero_le _, rfl, jP, jW, jB, jR, zB⟩
      case round =>
        clear jP jW jB jR zB
        obtain ⟨k, hk, rfl, jP, jW, jB, jR, zB⟩ := hrel
        by_cases hlt2 : k < ni
        · have ek1 : IntKind.i64.wrap (100 * (k : Int)) = 100 * (k : Int) := IntWalk.i64_in _ (by omega)
          have ek2 : IntKind.i64.wrap (100 * (k : Int) + 100) = 100 * (k : Int) + 100 := IntWalk.i64_in _ (by omega)
          have hHH := HVk.out k
          obtain ⟨f, hf⟩ : ∃ f : Nat → Int, f = laneV p I0 I1 nc C0 C1 w0 w1 k := ⟨_, rfl⟩
          have HH : Hid (∀ j, j < 100 → ∀ W vL, Below w.heap.size w W → LoadsAt W vL 1 (fun _ => laneX w0 w1 k j) → Calls Try.prog 91 #[.agg #[.int .i64 p.s0, .int .i64 p.s1, (.slice aS p.S.n cS), (.slice aC p.C.n cC), .int .i64 p.ne, .int .i64 p.ed, .int .i64 p.gr, .int .i64 p.lo, .int .i64 p.hi, .int .i64 p.sh, .int .i64 p.wi], .slice aI ni cI, .slice aK nc cK, vL, .int .i64 0] W fun e w' => e = .returned (.int .i64 (f j)) ∧ Below W.heap.size W w') := fun j hj => by rw [hf]; exact hHH j hlt2 hj
          have Hf3 : Hid (∀ j, f j = 1 ∨ f j = 2 ∨ f j = 3) := fun j => by rw [hf]; exact verd_in _
          have hxk : X k = commV f 100 := by rw [HXd.out, hf]
          have HXk := Lib.hid hxk
          clear hf hHH hxk
          go_wp2_with fail
          go_loopw [14, 15, 16] (fun s nv i wx => ∃ j : Nat, j ≤ 100 ∧ s = .int .i64 (cntV f 1 j : Nat) ∧ nv = .int .i64 (cntV f 2 j : Nat) ∧ i = .int .i64 (100 * (k : Int) + (j : Int)) ∧ Blk wx bP #[.int .i64 p.s0, .int .i64 p.s1, (.slice aS p.S.n cS), (.slice aC p.C.n cC), .int .i64 p.ne, .int .i64 p.ed, .int .i64 p.gr, .int .i64 p.lo, .int .i64 p.hi, .int .i64 p.sh, .int .i64 p.wi] 26 ∧ Blk wx bW #[.int .i64 w0, .int .i64 w1] 23 ∧ Below w.heap.size w wx ∧ wx.ownsRow BB 3 1 u12 k (catC (intC X) k) ∧ BB ≤ wx.heap.size) (fun _ _ i _ => 100 - ((intOf i).toNat - 100 * k))
          case atStart => exact ⟨0, by omega, rfl, rfl, by simp, jP, jW, jB, jR, zB⟩
          case round =>
            clear jP jW jB jR zB
            obtain ⟨j, hj, rfl, rfl, rfl, jP, jW, jB, jR, zB⟩ := hrel
            by_cases hlt3 : j < 100
            · have em : IntKind.i64.wrap (100 * (k : Int) + (j : Int) + 1) = 100 * (k : Int) + ((j + 1 : Nat) : Int) := by rw [IntWalk.i64_in _ (by omega)]; omega
              have hm1 : 100 * (k : Int) + (j : Int) < 100 * (k : Int) + 100 := by omega
              have HHj := Lib.hid (HH.out j hlt3)
              have HF3 := Hf3.out j
              obtain ⟨fv, hfv⟩ : ∃ x, f j = x := ⟨_, rfl⟩
              rw [hfv] at HHj HF3
              have HFj := Lib.hid hfv
              have HF3 := Lib.hid HF3
              clear hfv
              obtain ⟨c0, c1, c2, c3, c4, c5, c6, c7, c8, c9, c10⟩ := jP.c11
              obtain ⟨g0, g1⟩ := jW.c2
              have zP := jP.lt
              have zW := jW.lt
              have jB2 := bwA jB (Nat.le_refl _) (.cells #[.int .i64 (100 * (k : Int) + (j : Int)), .int .i64 w0, .int .i64 w1, .int .i64 0] 53)
              have hLd : LoadsAt (wr.alloc (.cells #[.int .i64 (100 * (k : Int) + (j : Int)), .int .i64 w0, .int .i64 w1, .int .i64 0] 53)) (.slice (some ⟨wr.heap.size, 0, none⟩) 1 1) 1 (fun _ => laneX w0 w1 k j) := load_alone (x := laneX w0 w1 k j) (Blk.new wr #[.int .i64 (100 * (k : Int) + (j : Int)), .int .i64 w0, .int .i64 w1, .int .i64 0] 53)
              have HC := Lib.hid (HHj.out _ _ jB2 hLd)
              clear hLd HHj
              go_wp2_with fail
              clear c0 c1 c2 c3 c4 c5 c6 c7 c8 c9 c10 g0 g1 zP zW
              refine HC.out.mono ?_
              rintro e wy ⟨rfl, hb⟩
              clear HC
              replace jP := (jP.alloc (.cells #[.int .i64 (100 * (k : Int) + (j : Int)), .int .i64 w0, .int .i64 w1, .int .i64 0] 53)).call hb
              replace jW := (jW.alloc (.cells #[.int .i64 (100 * (k : Int) + (j : Int)), .int .i64 w0, .int .i64 w1, .int .i64 0] 53)).call hb
              replace jR := row_call (jR.alloc (.cells #[.int .i64 (100 * (k : Int) + (j : Int)), .int .i64 w0, .int .i64 w1, .int .i64 0] 53)) hb
              replace zB : BB ≤ wy.heap.size := by have := hb.size; simp at this; omega
              replace jB := bwS jB2 (Nat.le_refl _) hb
              clear hb jB2
              rcases HF3.out with hv | hv | hv
              · subst hv
                have E1 : Hid (cntV f 1 (j + 1) = cntV f 1 j + 1 ∧ cntV f 2 (j + 1) = cntV f 2 j) := ⟨by rw [cntV, if_pos HFj.out], by rw [cntV, if_neg (by rw [HFj.out]; decide)]⟩
                have ew1 : IntKind.i64.wrap (((cntV f 1 j : Nat) : Int) + 1) = ((cntV f 1 (j + 1) : Nat) : Int) := by rw [E1.out.1, IntWalk.i64_in _ (by have := cntV_le f 1 j; omega)]; omega
                clear HFj
                go_wp2
                go_roundw
                case rel => exact ⟨j + 1, by omega, rfl, by rw [E1.out.2], by go_num, jP, jW, jB, jR, zB⟩
                case measure => simp [intOf]; omega
              · subst hv
                have E1 : Hid (cntV f 1 (j + 1) = cntV f 1 j ∧ cntV f 2 (j + 1) = cntV f 2 j + 1) := ⟨by rw [cntV, if_neg (by rw [HFj.out]; decide)], by rw [cntV, if_pos HFj.out]⟩
                have ew1 : IntKind.i64.wrap (((cntV f 2 j : Nat) : Int) + 1) = ((cntV f 2 (j + 1) : Nat) : Int) := by rw [E1.out.2, IntWalk.i64_in _ (by have := cntV_le f 2 j; omega)]; omega
                clear HFj
                go_wp2
                go_roundw
                case rel => exact ⟨j + 1, by omega, by rw [E1.out.1], rfl, by go_num, jP, jW, jB, jR, zB⟩
                case measure => simp [intOf]; omega
              · subst hv
                have E1 : Hid (cntV f 1 (j + 1) = cntV f 1 j ∧ cntV f 2 (j + 1) = cntV f 2 j) := ⟨by rw [cntV, if_neg (by rw [HFj.out]; decide)], by rw [cntV, if_neg (by rw [HFj.out]; decide)]⟩
                skip
                clear HFj
                go_wp2
                go_roundw
                case rel => exact ⟨j + 1, by omega, by rw [E1.out.1], by rw [E1.out.2], by go_num, jP, jW, jB, jR, zB⟩
                case measure => simp [intOf]; omega
            · obtain rfl : j = 100 := by omega
              obtain ⟨d1, hd1⟩ : ∃ d : Int, ((cntV f 1 100 : Nat) : Int) = d := ⟨_, rfl⟩
              obtain ⟨d2, hd2⟩ : ∃ d : Int, ((cntV f 2 100 : Nat) : Int) = d := ⟨_, rfl⟩
              have n1 := comm_cnt f 100 (by decide) 1 (by decide)
              have n2 := comm_cnt f 100 (by decide) 2 (by decide)
              rw [← HXk.out] at n1 n2
              have HX1 : Hid (X k = 1 → d1 = 100 ∧ d2 ≠ 100) := fun h => by
                have := n1.1 h
                refine ⟨by omega, fun q => ?_⟩
                have := n2.2 (by omega)
                omega
              have HX2 : Hid (X k = 2 → d1 ≠ 100 ∧ d2 = 100) := fun h => by
                have := n2.1 h
                refine ⟨fun q => ?_, by omega⟩
                have := n1.2 (by omega)
                omega
              have HX3 : Hid (X k = 3 → d1 ≠ 100 ∧ d2 ≠ 100) := fun h => by
                refine ⟨fun q => ?_, fun q => ?_⟩
                · have := n1.2 (by omega)
                  omega
                · have := n2.2 (by omega)
                  omega
              have HXv : X k = 1 ∨ X k = 2 ∨ X k = 3 := by
                by_cases e1 : X k = 1
                · exact .inl e1
                · by_cases e2 : X k = 2
                  · exact .inr (.inl e2)
                  · refine .inr (.inr ?_)
                    rw [HXk.out] at e1 e2 ⊢
                    unfold commV at e1 e2 ⊢
                    rcases Hf3.out 0 with g | g | g <;> by_cases q : eqAll f 100 = true <;> simp_all
              clear n1 n2
              rw [hd1, hd2]
              clear hd1 hd2 HH Hf3 HXk
              obtain ⟨xv, hxv⟩ : ∃ x, X k = x := ⟨_, rfl⟩
              rw [hxv] at HX1 HX2 HX3 HXv
              have hr : ∀ q, u12.ownBlock = some q → BB ≤ q := fun q e => (jR.lt q e).1
              have HXX := Lib.hid hxv
              clear hxv
              rcases HXv with hx | hx | hx
              · subst hx
                obtain ⟨h1, h2⟩ := HX1.out rfl
                have b2 : (d2 == 100) = false := by simpa using h2
                subst h1
                clear h2
                clear HX1 HX2 HX3
                go_wp2_with (at_builtin; refine wpList_append_own_at _ rfl _ _ 27 rfl BB 3 i0 (.int .i64 0) 1 8 Try.underlying27 hi0 hz0 hz1 hz2 rfl (by decide) _ _ _ rfl (jR.alloc _) ⟨wr.heap.size, 0, none⟩ 1 1 [.int .i64 1] rfl rfl (news1 _ _ _) (one1 _) (by unfold maxLen; omega) (by omega) (by simp; omega) ?_; intro v' w5 hown' hgrow _ _; have kP := (jP.alloc (.cells #[.int .i64 1] 3)).grown hgrow (fun q e => by have := hr q e; omega); have kW := (jW.alloc (.cells #[.int .i64 1] 3)).grown hgrow (fun q e => by have := hr q e; omega); have kB := below_grown (bwA jB (Nat.le_refl _) (.cells #[.int .i64 1] 3)) hgrow (fun q e => by have := hr q e; omega) (by simp; omega); have kZ : BB ≤ w5.heap.size := (by have := hgrow.size; simp at this; omega))
                clear hgrow jP jW jB jR zB hr
                go_roundw
                case rel => exact ⟨k + 1, by omega, by go_num, kP, kW, kB, by rw [catC, intC, HXX.out]; exact hown', kZ⟩
                case measure => simp [intOf]; omega
              · subst hx
                obtain ⟨h1, h2⟩ := HX2.out rfl
                have b1 : (d1 == 100) = false := by simpa using h1
                subst h2
                clear h1
                clear HX1 HX2 HX3
                go_wp2_with (at_builtin; refine wpList_append_own_at _ rfl _ _ 27 rfl BB 3 i0 (.int .i64 0) 1 8 Try.underlying27 hi0 hz0 hz1 hz2 rfl (by decide) _ _ _ rfl (jR.alloc _) ⟨wr.heap.size, 0, none⟩ 1 1 [.int .i64 2] rfl rfl (news1 _ _ _) (one1 _) (by unfold maxLen; omega) (by omega) (by simp; omega) ?_; intro v' w5 hown' hgrow _ _; have kP := (jP.alloc (.cells #[.int .i64 2] 3)).grown hgrow (fun q e => by have := hr q e; omega); have kW := (jW.alloc (.cells #[.int .i64 2] 3)).grown hgrow (fun q e => by have := hr q e; omega); have kB := below_grown (bwA jB (Nat.le_refl _) (.cells #[.int .i64 2] 3)) hgrow (fun q e => by have := hr q e; omega) (by simp; omega); have kZ : BB ≤ w5.heap.size := (by have := hgrow.size; simp at this; omega))
                clear hgrow jP jW jB jR zB hr
                go_roundw
                case rel => exact ⟨k + 1, by omega, by go_num, kP, kW, kB, by rw [catC, intC, HXX.out]; exact hown', kZ⟩
                case measure => simp [intOf]; omega
              · subst hx
                obtain ⟨h1, h2⟩ := HX3.out rfl
                have b1 : (d1 == 100) = false := by simpa using h1
                have b2 : (d2 == 100) = false := by simpa using h2
                clear h1 h2
                clear HX1 HX2 HX3
                go_wp2_with (at_builtin; refine wpList_append_own_at _ rfl _ _ 27 rfl BB 3 i0 (.int .i64 0) 1 8 Try.underlying27 hi0 hz0 hz1 hz2 rfl (by decide) _ _ _ rfl (jR.alloc _) ⟨wr.heap.size, 0, none⟩ 1 1 [.int .i64 3] rfl rfl (news1 _ _ _) (one1 _) (by unfold maxLen; omega) (by omega) (by simp; omega) ?_; intro v' w5 hown' hgrow _ _; have kP := (jP.alloc (.cells #[.int .i64 3] 3)).grown hgrow (fun q e => by have := hr q e; omega); have kW := (jW.alloc (.cells #[.int .i64 3] 3)).grown hgrow (fun q e => by have := hr q e; omega); have kB := below_grown (bwA jB (Nat.le_refl _) (.cells #[.int .i64 3] 3)) hgrow (fun q e => by have := hr q e; omega) (by simp; omega); have kZ : BB ≤ w5.heap.size := (by have := hgrow.size; simp at this; omega))
                clear hgrow jP jW jB jR zB hr
                go_roundw
                case rel => exact ⟨k + 1, by omega, by go_num, kP, kW, kB, by rw [catC, intC, HXX.out]; exact hown', kZ⟩
                case measure => simp [intOf]; omega
        · obtain rfl : k = ni := by omega
          go_wp2
          exact bodyPost_ret (v := .tuple #[u12, .int .i64 0]) (by simp [results, Try.results40, go_sem]) rfl ⟨u12, rfl, ints_of_row jR, jB⟩
    · have e4 : (x2 != 0) = true := by simpa using e2
      have HE2 := Lib.hid e2
      clear e2
      go_wp2
      exact bodyPost_ret (v := .tuple #[.slice none 0 0, .int .i64 x2]) (by simp [results, Try.results40, go_sem]) rfl ⟨_, rfl, (ints_nil _ _), jB⟩
  · have hr2 : r = x1 := by rw [← hr]; exact orE_ne e1
    subst hr2
    have e4 : (r != 0) = true := by simpa using e1
    have HE2 := Lib.hid e1
    clear e1
    go_wp2
    exact bodyPost_ret (v := .tuple #[.slice none 0 0, .int .i64 r]) (by simp [results, Try.results40, go_sem]) rfl ⟨_, rfl, (ints_nil _ _), jB⟩
end Go.Proofs.Ytfakmggabicdjaa

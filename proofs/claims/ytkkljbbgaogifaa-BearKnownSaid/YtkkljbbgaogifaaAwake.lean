/-
  awake says yes (sastrugilaw03): some of the chapter's examples.
-/
import Derived.Test.YtkkljbbgaogifaaTail
import Derived.Test.YtkkljbbgaogifaaLdsB
set_option linter.unusedVariables false
set_option linter.unusedSimpArgs false
namespace Go.Proofs.Ytkkljbbgaogifaa
open Go.RowKit

def L2 : Nat → Ld := fun i => ⟨if i = 0 then 10 else 29, 8000, 8000, 0⟩
theorem verd2_0 : verdV pl0 (fun _ => 500) (fun _ => 500) 0 (fun _ => 0) (fun _ => 0) 2 L2 (L2 0) = 2 := by decide
theorem verd2_1 : verdV pl0 (fun _ => 500) (fun _ => 500) 0 (fun _ => 0) (fun _ => 0) 2 L2 (L2 1) = 2 := by decide
theorem lim0 : limV pl0 false 500 60 = 6400000000000000 := by decide

theorem great_any (p : Pl) (hp : p.Ok) (vS vC : Value) (thick st : Int) (ht : 0 ≤ thick ∧ thick ≤ 5000) (hs : 0 ≤ st) (w : World) (hS : TabAt w vS p.S) (hC : TabAt w vC p.C) :
    Calls Try.prog 77 #[.agg #[.int .i64 p.s0, .int .i64 p.s1, vS, vC, .int .i64 p.ne, .int .i64 p.ed, .int .i64 p.gr, .int .i64 p.lo, .int .i64 p.hi, .int .i64 p.sh, .int .i64 p.wi], .int .i64 thick, .int .i64 st] w fun e w' => e = .returned (.int .i64 (limV p false thick st / 1000000000000)) ∧ Below w.heap.size w w' := by
  obtain ⟨aS, cS, rfl, _, _, _⟩ := id hS
  obtain ⟨aC, cC, rfl, _, _, _⟩ := id hC
  have HL : Hid (∀ W, Below w.heap.size w W → Calls Try.prog 111 #[.agg #[.bool false, .int .i64 p.s0, .int .i64 p.s1, (.slice aS p.S.n cS), (.slice aC p.C.n cC), .int .i64 p.ne, .int .i64 p.ed, .int .i64 p.gr, .int .i64 p.lo, .int .i64 p.hi, .int .i64 p.sh, .int .i64 p.wi], .int .i64 thick, .int .i64 st] W fun e w' => e = .returned (.int .i64 (limV p false thick st)) ∧ Below W.heap.size W w') := fun W hW => limit_any p hp false _ _ thick st ht hs W (hC.later hW)
  have hB := lim_in (s := p.s0) (t := thick) (c := p.C.val st) (by have := hp.s0; have := hp.s01; have := hp.s1; omega) ht (hp.C.val_in st)
  have hl : 0 ≤ limV p false thick st ∧ limV p false thick st ≤ 2500000000000000000 := by unfold limV; simpa [endV] using hB.2.2
  generalize limV p false thick st = r at HL hl ⊢
  have e1 : IntKind.i64.wrap (r.tdiv 1000000000000) = r / 1000000000000 := by rw [Int.tdiv_eq_ediv_of_nonneg hl.1]; exact IntWalk.i64_in _ (by omega)
  have jB : Below w.heap.size w (w.alloc (.cells #[.int .i64 p.s0, .int .i64 p.s1, (.slice aS p.S.n cS), (.slice aC p.C.n cC), .int .i64 p.ne, .int .i64 p.ed, .int .i64 p.gr, .int .i64 p.lo, .int .i64 p.hi, .int .i64 p.sh, .int .i64 p.wi] 26)) := by (repeat (first | exact Below.refl _ _ | assumption | refine Below.drew ?_ | refine Below.drewN ?_ _ | refine blT ?_ | refine blU ?_))
  clear hp hS hC hB hl ht hs
  go_enter Try.func77, Try.ntmps77
  go_wp2_with fail
  refine (worst_any _ _ _ _ _ _ _ _).mono ?_
  rintro e w1 ⟨rfl, hb⟩
  replace jB := bwS jB (Nat.le_refl _) hb
  clear hb
  go_wp2_with fail
  refine (HL.out _ jB).mono ?_
  rintro e w2 ⟨rfl, hb⟩
  replace jB := bwS jB (Nat.le_refl _) hb
  clear hb
  go_wp2
  go_ret
  exact ⟨rfl, jB⟩

theorem thickc_any (n : Int) (w : World) :
    Calls Try.prog 75 #[.int .i64 n] w fun e w' => e = .returned (.int .i64 (eN n 0 5000)) ∧ w = w' := by
  go_enter Try.func75, Try.ntmps75
  go_wp2_with (go_at_call 78; refine (number_any _ _ _ _).mono ?_; rintro e w' ⟨rfl, rfl⟩)
  go_ret
  exact ⟨rfl, rfl⟩

set_option maxHeartbeats 2000000 in
theorem bears_valid (p : Pl) (hp : p.Ok) (vS vC : Value) (thick st : Int) (ht : 0 ≤ thick ∧ thick ≤ 5000) (hs : 0 ≤ st ∧ st ≤ 10000) (w : World) (hS : TabAt w vS p.S) (hC : TabAt w vC p.C) :
    Calls Try.prog 25 #[.agg #[.int .i64 p.s0, .int .i64 p.s1, vS, vC, .int .i64 p.ne, .int .i64 p.ed, .int .i64 p.gr, .int .i64 p.lo, .int .i64 p.hi, .int .i64 p.sh, .int .i64 p.wi], .int .i64 thick, .int .i64 st] w fun e w' => e = .returned (.tuple #[.int .i64 (limV p false thick st / 1000000000000), .int .i64 0]) ∧ Below w.heap.size w w' := by
  obtain ⟨aS, cS, rfl, _, _, _⟩ := id hS
  obtain ⟨aC, cC, rfl, _, _, _⟩ := id hC
  have HG : Hid (∀ W, Below w.heap.size w W → Calls Try.prog 77 #[.agg #[.int .i64 p.s0, .int .i64 p.s1, (.slice aS p.S.n cS), (.slice aC p.C.n cC), .int .i64 p.ne, .int .i64 p.ed, .int .i64 p.gr, .int .i64 p.lo, .int .i64 p.hi, .int .i64 p.sh, .int .i64 p.wi], .int .i64 thick, .int .i64 st] W fun e w' => e = .returned (.int .i64 (limV p false thick st / 1000000000000)) ∧ Below W.heap.size W w') := fun W hW => great_any p hp _ _ thick st ht hs.1 W (hS.later hW) (hC.later hW)
  have HC : Hid (∀ W, Below w.heap.size w W → Calls Try.prog 30 #[.agg #[.int .i64 p.s0, .int .i64 p.s1, (.slice aS p.S.n cS), (.slice aC p.C.n cC), .int .i64 p.ne, .int .i64 p.ed, .int .i64 p.gr, .int .i64 p.lo, .int .i64 p.hi, .int .i64 p.sh, .int .i64 p.wi]] W fun e w' => e = .returned (.int .i64 0) ∧ Below W.heap.size W w') := fun W hW => by
    have q := check_any p _ _ W (hS.later hW) (hC.later hW)
    rw [ePl_ok hp] at q
    exact q
  have ez1 := eN_ok ht.1 ht.2
  have ez2 := eN_ok hs.1 hs.2
  generalize limV p false thick st / 1000000000000 = r at HG ⊢
  have jP := Blk.new w #[.int .i64 p.s0, .int .i64 p.s1, (.slice aS p.S.n cS), (.slice aC p.C.n cC), .int .i64 p.ne, .int .i64 p.ed, .int .i64 p.gr, .int .i64 p.lo, .int .i64 p.hi, .int .i64 p.sh, .int .i64 p.wi] 26
  have jB : Below w.heap.size w (w.alloc (.cells #[.int .i64 p.s0, .int .i64 p.s1, (.slice aS p.S.n cS), (.slice aC p.C.n cC), .int .i64 p.ne, .int .i64 p.ed, .int .i64 p.gr, .int .i64 p.lo, .int .i64 p.hi, .int .i64 p.sh, .int .i64 p.wi] 26)) := by (repeat (first | exact Below.refl _ _ | assumption | refine Below.drew ?_ | refine Below.drewN ?_ _ | refine blT ?_ | refine blU ?_))
  clear hp hS hC ht hs
  go_enter Try.func25, Try.ntmps25
  go_wp2_with fail
  refine (HC.out _ jB).mono ?_
  rintro e w1 ⟨rfl, hb⟩
  replace jP := jP.call hb
  replace jB := bwS jB (Nat.le_refl _) hb
  clear hb
  go_wp2_with fail
  refine (thickc_any _ _).mono ?_
  rw [ez1]
  rintro e w2 ⟨rfl, rfl⟩
  go_wp2_with fail
  refine (stand_any _ _).mono ?_
  rw [ez2]
  rintro e w3 ⟨rfl, rfl⟩
  go_wp2_with fail
  refine (first_three _ _ 0 0 0 _ (by simp) (by simp) (by simp)).mono ?_
  rw [show orE 0 (orE 0 0) = 0 from rfl]
  rintro e w4 ⟨rfl, rfl⟩
  replace jP := jP.alloc (.cells #[.int .i64 0, .int .i64 0, .int .i64 0] 36)
  replace jB := bwA jB (Nat.le_refl _) (.cells #[.int .i64 0, .int .i64 0, .int .i64 0] 36)
  generalize w1.alloc (.cells #[.int .i64 0, .int .i64 0, .int .i64 0] 36) = V at jP jB ⊢
  obtain ⟨c0, c1, c2, c3, c4, c5, c6, c7, c8, c9, c10⟩ := jP.c11
  have zP := jP.lt
  go_wp2_with fail
  refine (HG.out _ jB).mono ?_
  rintro e w5 ⟨rfl, hb⟩
  replace jB := bwS jB (Nat.le_refl _) hb
  go_wp2
  exact bodyPost_ret (v := .tuple #[.int .i64 r, .int .i64 0]) (by simp [results, Try.results25, go_sem]) rfl ⟨rfl, jB⟩

set_option maxHeartbeats 2000000 in
theorem speed_never (vS vC : Value) (w : World) (hS : TabAt w vS pl0.S) (hC : TabAt w vC pl0.C) :
    Calls Try.prog 44 #[.agg #[.int .i64 pl0.s0, .int .i64 pl0.s1, vS, vC, .int .i64 pl0.ne, .int .i64 pl0.ed, .int .i64 pl0.gr, .int .i64 pl0.lo, .int .i64 pl0.hi, .int .i64 pl0.sh, .int .i64 pl0.wi], .agg #[.int .i64 50, .int .i64 50], .int .i64 100, .int .i64 70] w fun e w' => e = .returned (.tuple #[.int .i64 2, .int .i64 0]) ∧ Below w.heap.size w w' := by
  obtain ⟨aS, cS, rfl, _, _, _⟩ := id hS
  obtain ⟨aC, cC, rfl, _, _, _⟩ := id hC
  have HM : Hid (∀ W, Calls Try.prog 103 #[.agg #[.int .i64 pl0.s0, .int .i64 pl0.s1, (.slice aS pl0.S.n cS), (.slice aC pl0.C.n cC), .int .i64 pl0.ne, .int .i64 pl0.ed, .int .i64 pl0.gr, .int .i64 pl0.lo, .int .i64 pl0.hi, .int .i64 pl0.sh, .int .i64 pl0.wi], .agg #[.int .i64 50, .int .i64 50], .int .i64 100, .int .i64 70] W fun e w' => e = .returned (.int .i64 2) ∧ Below W.heap.size W w') := fun W =>
    calm_never pl0 pl0_ok aS aC _ cS _ cC 50 50 100 70 (by decide) (by decide) (fun f b q1 q2 q3 q4 q5 q6 => by
      simp only [pl0] at q3 q4 q5 q6
      constructor
      · by_cases h : f ≤ 50
        · omega
        · obtain ⟨j, hj⟩ : ∃ j, f = j + 1 := ⟨f - 1, by omega⟩
          have := q4 j hj
          omega
      · by_cases h : b ≤ 50
        · have := q5 (by omega)
          omega
        · omega) (by decide) W
  have HC : Hid (∀ W, Below w.heap.size w W → Calls Try.prog 30 #[.agg #[.int .i64 pl0.s0, .int .i64 pl0.s1, (.slice aS pl0.S.n cS), (.slice aC pl0.C.n cC), .int .i64 pl0.ne, .int .i64 pl0.ed, .int .i64 pl0.gr, .int .i64 pl0.lo, .int .i64 pl0.hi, .int .i64 pl0.sh, .int .i64 pl0.wi]] W fun e w' => e = .returned (.int .i64 0) ∧ Below W.heap.size W w') := fun W hW => by
    have q := check_any pl0 _ _ W (hS.later hW) (hC.later hW)
    rw [ePl_ok pl0_ok] at q
    exact q
  clear hS hC
  generalize pl0 = p at HM HC ⊢
  have HV : Hid (∀ W, Below w.heap.size w W → Calls Try.prog 102 #[.agg #[.int .i64 p.s0, .int .i64 p.s1, (.slice aS p.S.n cS), (.slice aC p.C.n cC), .int .i64 p.ne, .int .i64 p.ed, .int .i64 p.gr, .int .i64 p.lo, .int .i64 p.hi, .int .i64 p.sh, .int .i64 p.wi], .agg #[.int .i64 50, .int .i64 50], .int .i64 100] W fun e w' => e = .returned (.int .i64 0) ∧ Below W.heap.size W w') := fun W hW => by
    have jP := (Blk.new W #[.int .i64 p.s0, .int .i64 p.s1, (.slice aS p.S.n cS), (.slice aC p.C.n cC), .int .i64 p.ne, .int .i64 p.ed, .int .i64 p.gr, .int .i64 p.lo, .int .i64 p.hi, .int .i64 p.sh, .int .i64 p.wi] 26).alloc (.cells #[.int .i64 50, .int .i64 50] 23)
    have jD := Blk.new1 W (.cells #[.int .i64 p.s0, .int .i64 p.s1, (.slice aS p.S.n cS), (.slice aC p.C.n cC), .int .i64 p.ne, .int .i64 p.ed, .int .i64 p.gr, .int .i64 p.lo, .int .i64 p.hi, .int .i64 p.sh, .int .i64 p.wi] 26) #[.int .i64 50, .int .i64 50] 23
    have jB : Below W.heap.size W ((W.alloc (.cells #[.int .i64 p.s0, .int .i64 p.s1, (.slice aS p.S.n cS), (.slice aC p.C.n cC), .int .i64 p.ne, .int .i64 p.ed, .int .i64 p.gr, .int .i64 p.lo, .int .i64 p.hi, .int .i64 p.sh, .int .i64 p.wi] 26)).alloc (.cells #[.int .i64 50, .int .i64 50] 23)) := by (repeat (first | exact Below.refl _ _ | assumption | refine Below.drew ?_ | refine Below.drewN ?_ _ | refine blT ?_ | refine blU ?_))
    have ez1 : eS 50 50 0 10000 = 0 := rfl
    have ez2 : eN 100 0 100000 = 0 := rfl
    have zw := hW.size
    go_enter Try.func102, Try.ntmps102
    go_wp2_with fail
    refine wp_region_held_drew (S := (fun w' => Blk w' W.heap.size #[.int .i64 p.s0, .int .i64 p.s1, (.slice aS p.S.n cS), (.slice aC p.C.n cC), .int .i64 p.ne, .int .i64 p.ed, .int .i64 p.gr, .int .i64 p.lo, .int .i64 p.hi, .int .i64 p.sh, .int .i64 p.wi] 26 ∧ Blk w' (W.heap.size + 1) #[.int .i64 50, .int .i64 50] 23 ∧ Below W.heap.size W w')) (by kernel_rfl) ?_ (fun hH => ?_)
    · (try dsimp only); (exact ⟨jP.drew, jD.drew, jB.drew⟩)
    refine tkY 0 (some 7) ?_ ?_ ?_
    rotate_left
    · intro w hS0; (try dsimp only at hS0); obtain ⟨kP, kD, _⟩ := hS0; obtain ⟨c0, c1, c2, c3, c4, c5, c6, c7, c8, c9, c10⟩ := kP.c11; obtain ⟨d0, d1⟩ := kD.c2; have y1 := kP.lt; have y2 := kD.lt;go_simp; (try with_reducible rfl)
    (try simp only [cq])
    refine tkY 2 (some 9) ?_ ?_ ?_
    rotate_left
    · intro w hS0; (try dsimp only at hS0); obtain ⟨kP, kD, _⟩ := hS0; obtain ⟨c0, c1, c2, c3, c4, c5, c6, c7, c8, c9, c10⟩ := kP.c11; obtain ⟨d0, d1⟩ := kD.c2; have y1 := kP.lt; have y2 := kD.lt;go_simp; (try with_reducible rfl)
    (try simp only [cq])
    refine tkY 4 (some 11) ?_ ?_ ?_
    rotate_left
    · intro w _; go_simp; (try with_reducible rfl)
    (try simp only [cq])
    refine wpAnyH_ready (rs := [1]) (by kernel_rfl) (by simp) ?_
    refine arc1 (some 8) fun K hK => ?_
    go_simp
    (refine (HC.out _ (bwS hW (Nat.le_refl _) hH.2.2)).mono ?_; rintro e w' ⟨rfl, hb⟩)
    refine hK.out _ _ ?_ ?_
    · (exact ⟨hH.1.call hb, hH.2.1.call hb, bwS hH.2.2 (Nat.le_refl _) hb⟩)
    (try clear hH); (try clear hb)
    intro hH
    clear hK K
    (try simp only [cq])
    refine wpAnyH_ready (rs := [3]) (by kernel_rfl) (by simp) ?_
    refine arc1 (some 10) fun K hK => ?_
    go_simp
    (refine (span_any _ _ _ _ _).mono ?_; rw [ez1]; rintro e w' ⟨rfl, hb⟩)
    refine hK.out _ _ ?_ ?_
    · (exact ⟨hH.1.call hb, hH.2.1.call hb, bwS hH.2.2 (Nat.le_refl _) hb⟩)
    (try clear hH); (try clear hb)
    intro hH
    clear hK K
    (try simp only [cq])
    refine wpAnyH_ready (rs := [5]) (by kernel_rfl) (by simp) ?_
    refine arc1 (some 12) fun K hK => ?_
    go_simp
    (refine (number_any _ _ _ _).mono ?_; rw [ez2]; rintro e w' ⟨rfl, rfl⟩)
    refine hK.out _ _ ?_ ?_
    · exact hH
    (try clear hH); (try clear hb)
    intro hH
    clear hK K
    (try simp only [cq])
    refine wpAnyH_ready (rs := [6]) (by kernel_rfl) (by simp) ?_
    refine arc1 (some 13) fun K hK => ?_
    go_simp
    refine hK.out _ _ ?_ ?_
    · exact ⟨hH.1.alloc _, hH.2.1.alloc _, bwA hH.2.2 (Nat.le_refl _) _⟩
    (try clear hH); (try clear hb)
    intro hH
    clear hK K
    (try simp only [cq])
    refine wpAnyH_ready (rs := [7]) (by kernel_rfl) (by simp) ?_
    refine arc1 (some 14) fun K hK => ?_
    go_simp
    (refine (first_three _ _ 0 0 0 _ (by simp) (by simp) (by simp)).mono ?_; rw [show orE 0 (orE 0 0) = 0 from rfl]; rintro e w' ⟨rfl, rfl⟩)
    refine hK.out _ _ ?_ ?_
    · exact hH
    (try clear hH); (try clear hb)
    intro hH
    clear hK K
    (try simp only [cq])
    refine tkY 8 (some 6) ?_ ?_ ?_
    rotate_left
    · intro w _; go_simp; (try with_reducible rfl)
    (try simp only [cq])
    refine wpAnyH_done (by kernel_rfl) ?_ _
    (try dsimp only [Act.put])
    (try simp only [cq])
    have hBB := hH.2.2
    clear hH
    go_wp2
    go_ret
    exact ⟨rfl, hBB⟩
  have jP := (Blk.new w #[.int .i64 p.s0, .int .i64 p.s1, (.slice aS p.S.n cS), (.slice aC p.C.n cC), .int .i64 p.ne, .int .i64 p.ed, .int .i64 p.gr, .int .i64 p.lo, .int .i64 p.hi, .int .i64 p.sh, .int .i64 p.wi] 26).alloc (.cells #[.int .i64 50, .int .i64 50] 23)
  have jD := Blk.new1 w (.cells #[.int .i64 p.s0, .int .i64 p.s1, (.slice aS p.S.n cS), (.slice aC p.C.n cC), .int .i64 p.ne, .int .i64 p.ed, .int .i64 p.gr, .int .i64 p.lo, .int .i64 p.hi, .int .i64 p.sh, .int .i64 p.wi] 26) #[.int .i64 50, .int .i64 50] 23
  have jB : Below w.heap.size w ((w.alloc (.cells #[.int .i64 p.s0, .int .i64 p.s1, (.slice aS p.S.n cS), (.slice aC p.C.n cC), .int .i64 p.ne, .int .i64 p.ed, .int .i64 p.gr, .int .i64 p.lo, .int .i64 p.hi, .int .i64 p.sh, .int .i64 p.wi] 26)).alloc (.cells #[.int .i64 50, .int .i64 50] 23)) := by (repeat (first | exact Below.refl _ _ | assumption | refine Below.drew ?_ | refine Below.drewN ?_ _ | refine blT ?_ | refine blU ?_))
  have ez3 : eN 70 0 1000 = 0 := rfl
  clear HC
  go_enter Try.func44, Try.ntmps44
  go_wp2_with fail
  refine (HV.out _ jB).mono ?_
  rintro e w1 ⟨rfl, hb⟩
  replace jP := jP.call hb
  replace jD := jD.call hb
  replace jB := bwS jB (Nat.le_refl _) hb
  clear hb
  go_wp2_with fail
  refine (number_any _ _ _ _).mono ?_
  rw [ez3]
  rintro e w2 ⟨rfl, rfl⟩
  go_wp2_with fail
  refine (first_two _ _ 0 0 _ (by simp) (by simp)).mono ?_
  rw [show orE 0 0 = 0 from rfl]
  rintro e w3 ⟨rfl, rfl⟩
  replace jP := jP.alloc (.cells #[.int .i64 0, .int .i64 0] 36)
  replace jD := jD.alloc (.cells #[.int .i64 0, .int .i64 0] 36)
  replace jB := bwA jB (Nat.le_refl _) (.cells #[.int .i64 0, .int .i64 0] 36)
  generalize w1.alloc (.cells #[.int .i64 0, .int .i64 0] 36) = V at jP jD jB ⊢
  obtain ⟨c0, c1, c2, c3, c4, c5, c6, c7, c8, c9, c10⟩ := jP.c11
  obtain ⟨d0, d1⟩ := jD.c2
  have zP := jP.lt
  have zD := jD.lt
  go_wp2_with fail
  refine (HM.out _).mono ?_
  rintro e w5 ⟨rfl, hb⟩
  replace jB := bwS jB (Nat.le_refl _) hb
  go_wp2
  exact bodyPost_ret (v := .tuple #[.int .i64 2, .int .i64 0]) (by simp [results, Try.results44, go_sem]) rfl ⟨rfl, jB⟩
end Go.Proofs.Ytkkljbbgaogifaa

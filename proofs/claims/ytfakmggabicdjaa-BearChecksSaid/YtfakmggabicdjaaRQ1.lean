/-
  The reference's greatest and Bears, whatever comes in.
-/
import Derived.Test.YtfakmggabicdjaaTail
import Derived.Test.YtfakmggabicdjaaRB3
import Derived.Test.YtfakmggabicdjaaLeast3
set_option linter.unusedVariables false
set_option linter.unusedSimpArgs false
namespace Go.Proofs.Ytfakmggabicdjaa
open Go.RowKit

set_option maxRecDepth 100000 in
set_option maxHeartbeats 4000000 in
theorem rgreat_any (p : Pl) (hp : p.Ok) (vS vC : Value) (thick st : Int) (ht : 0 ≤ thick ∧ thick ≤ 5000) (hs : 0 ≤ st) (w : World) (hS : TabAt w vS p.S) (hC : TabAt w vC p.C) :
    Calls Try.prog 73 #[.agg #[.int .i64 p.s0, .int .i64 p.s1, vS, vC, .int .i64 p.ne, .int .i64 p.ed, .int .i64 p.gr, .int .i64 p.lo, .int .i64 p.hi, .int .i64 p.sh, .int .i64 p.wi], .int .i64 thick, .int .i64 st] w fun e w' => e = .returned (.int .i64 (limV p false thick st / 1000000000000)) ∧ Below w.heap.size w w' := by
  obtain ⟨aS, cS, rfl, _, _, _⟩ := id hS
  obtain ⟨aC, cC, rfl, _, _, _⟩ := id hC
  have HC : Hid (∀ W, Below w.heap.size w W → Calls Try.prog 109 #[.slice aC p.C.n cC, .int .i64 st] W fun e w' => e = .returned (.int .i64 (p.C.val st)) ∧ Below W.heap.size W w') := fun W hW => rpart_any _ p.C st W (PairsAt.later hC hW) hp.C.n1 (by have := hp.C.f0; omega)
  have hB := lim_in (s := p.s0) (t := thick) (c := p.C.val st) (by have := hp.s0; have := hp.s01; have := hp.s1; omega) ht (hp.C.val_in st)
  have hv : limV p false thick st = p.s0 * thick * thick * p.C.val st := by simp [limV, endV]
  have HV := Lib.hid hv
  clear hv
  generalize limV p false thick st = r at HV ⊢
  generalize p.C.val st = cv at HC HV hB ⊢
  have e1 : IntKind.i64.wrap (p.s0 * thick) = p.s0 * thick := IntWalk.i64_in _ (by omega)
  have e2 : IntKind.i64.wrap (p.s0 * thick * thick) = p.s0 * thick * thick := IntWalk.i64_in _ (by omega)
  have e3 : IntKind.i64.wrap (p.s0 * thick * thick * cv) = p.s0 * thick * thick * cv := IntWalk.i64_in _ (by omega)
  have e4 : IntKind.i64.wrap ((p.s0 * thick * thick * cv).tdiv 1000000000000) = r / 1000000000000 := by rw [← HV.out, Int.tdiv_eq_ediv_of_nonneg (by rw [HV.out]; omega)]; exact IntWalk.i64_in _ (by rw [HV.out]; omega)
  clear hS hC hB hp ht hs HV
  have jP := Blk.new w #[.int .i64 p.s0, .int .i64 p.s1, (.slice aS p.S.n cS), (.slice aC p.C.n cC), .int .i64 p.ne, .int .i64 p.ed, .int .i64 p.gr, .int .i64 p.lo, .int .i64 p.hi, .int .i64 p.sh, .int .i64 p.wi] 26
  have jB : Below w.heap.size w (w.alloc (.cells #[.int .i64 p.s0, .int .i64 p.s1, (.slice aS p.S.n cS), (.slice aC p.C.n cC), .int .i64 p.ne, .int .i64 p.ed, .int .i64 p.gr, .int .i64 p.lo, .int .i64 p.hi, .int .i64 p.sh, .int .i64 p.wi] 26)) := by (repeat (first | exact Below.refl _ _ | assumption | refine Below.drew ?_ | refine Below.drewN ?_ _ | refine blT ?_ | refine blU ?_))
  go_enter Try.func73, Try.ntmps73
  go_wp2_with fail
  refine wp_region_held_drew (S := (fun w' => Blk w' w.heap.size #[.int .i64 p.s0, .int .i64 p.s1, (.slice aS p.S.n cS), (.slice aC p.C.n cC), .int .i64 p.ne, .int .i64 p.ed, .int .i64 p.gr, .int .i64 p.lo, .int .i64 p.hi, .int .i64 p.sh, .int .i64 p.wi] 26 ∧ Below w.heap.size w w')) (by kernel_rfl) ?_ (fun hH => ?_)
  · (try dsimp only); (exact ⟨jP.drew, jB.drew⟩)
  refine tkY 0 (some 7) ?_ ?_ ?_
  rotate_left
  · intro w hS0; (try dsimp only at hS0); obtain ⟨kP, _⟩ := hS0; obtain ⟨c0, c1, c2, c3, c4, c5, c6, c7, c8, c9, c10⟩ := kP.c11; have y1 := kP.lt;go_simp; (try with_reducible rfl)
  (try simp only [cq])
  refine tkY 1 (some 8) ?_ ?_ ?_
  rotate_left
  · intro w hS0; (try dsimp only at hS0); obtain ⟨kP, _⟩ := hS0; obtain ⟨c0, c1, c2, c3, c4, c5, c6, c7, c8, c9, c10⟩ := kP.c11; have y1 := kP.lt;go_simp; (try with_reducible rfl)
  (try simp only [cq])
  refine tkY 2 (some 9) ?_ ?_ ?_
  rotate_left
  · intro w hS0; (try dsimp only at hS0); obtain ⟨kP, _⟩ := hS0; obtain ⟨c0, c1, c2, c3, c4, c5, c6, c7, c8, c9, c10⟩ := kP.c11; have y1 := kP.lt;go_simp; (try with_reducible rfl)
  (try simp only [cq])
  refine tkY 3 (some 10) ?_ ?_ ?_
  rotate_left
  · intro w _; go_simp; (try with_reducible rfl)
  (try simp only [cq])
  refine tkY 4 (some 11) ?_ ?_ ?_
  rotate_left
  · intro w _; go_simp; (try with_reducible rfl)
  (try simp only [cq])
  refine tkY 5 (some 12) ?_ ?_ ?_
  rotate_left
  · intro w _; go_simp; (try with_reducible rfl)
  (try simp only [cq])
  refine tkY 6 (some 13) ?_ ?_ ?_
  rotate_left
  · intro w _; go_simp; (try with_reducible rfl)
  (try simp only [cq])
  refine tkY 7 (some 14) ?_ ?_ ?_
  rotate_left
  · intro w hS0; (try dsimp only at hS0); obtain ⟨kP, _⟩ := hS0; obtain ⟨c0, c1, c2, c3, c4, c5, c6, c7, c8, c9, c10⟩ := kP.c11; have y1 := kP.lt;go_simp; (try with_reducible rfl)
  (try simp only [cq])
  refine tkY 8 (some 15) ?_ ?_ ?_
  rotate_left
  · intro w hS0; (try dsimp only at hS0); obtain ⟨kP, _⟩ := hS0; obtain ⟨c0, c1, c2, c3, c4, c5, c6, c7, c8, c9, c10⟩ := kP.c11; have y1 := kP.lt;go_simp; (try with_reducible rfl)
  (try simp only [cq])
  refine tkY 9 (some 16) ?_ ?_ ?_
  rotate_left
  · intro w _; go_simp; (try with_reducible rfl)
  (try simp only [cq])
  refine wpAnyH_ready (rs := [10]) (by kernel_rfl) (by simp) ?_
  refine arc1 (some 17) fun K hK => ?_
  go_simp
  (refine (HC.out _ hH.2).mono ?_; rintro e w' ⟨rfl, hb⟩)
  refine hK.out _ _ ?_ ?_
  · (exact ⟨hH.1.call hb, bwS hH.2 (Nat.le_refl _) hb⟩)
  (try clear hH); (try clear hb)
  intro hH
  clear hK K
  (try simp only [cq])
  refine tkY 11 (some 18) ?_ ?_ ?_
  rotate_left
  · intro w _; go_simp; (try with_reducible rfl)
  (try simp only [cq])
  refine tkY 12 (some 19) ?_ ?_ ?_
  rotate_left
  · intro w _; go_simp; (try with_reducible rfl)
  (try simp only [cq])
  refine tkY 13 (some 6) ?_ ?_ ?_
  rotate_left
  · intro w _; go_simp; (try with_reducible rfl)
  (try simp only [cq])
  refine wpAnyH_done (by kernel_rfl) ?_ _
  (try dsimp only [Act.put])
  (try simp only [cq])
  have hBB := hH.2
  clear hH
  go_wp2
  go_ret
  exact ⟨rfl, hBB⟩

set_option maxRecDepth 100000 in
set_option maxHeartbeats 8000000 in
theorem rbears_any (p : Pl) (vS vC : Value) (th st : Int) (w : World) (hS : TabAt w vS p.S) (hC : TabAt w vC p.C) :
    Calls Try.prog 24 #[.agg #[.int .i64 p.s0, .int .i64 p.s1, vS, vC, .int .i64 p.ne, .int .i64 p.ed, .int .i64 p.gr, .int .i64 p.lo, .int .i64 p.hi, .int .i64 p.sh, .int .i64 p.wi], .int .i64 th, .int .i64 st] w fun e w' => e = .returned (.tuple #[.int .i64 (if e3 p (eN th 0 5000) (eN st 0 10000) = 0 then limV p false th st / 1000000000000 else 0), .int .i64 (e3 p (eN th 0 5000) (eN st 0 10000))]) ∧ Below w.heap.size w w' := by
  obtain ⟨aS, cS, rfl, _, _, _⟩ := id hS
  obtain ⟨aC, cC, rfl, _, _, _⟩ := id hC
  have HR : Hid (∀ W, Below w.heap.size w W → Calls Try.prog 31 #[.agg #[.int .i64 p.s0, .int .i64 p.s1, (.slice aS p.S.n cS), (.slice aC p.C.n cC), .int .i64 p.ne, .int .i64 p.ed, .int .i64 p.gr, .int .i64 p.lo, .int .i64 p.hi, .int .i64 p.sh, .int .i64 p.wi]] W fun e w' => e = .returned (.int .i64 (ePl p)) ∧ Below W.heap.size W w') := fun W hW => rcheck_any p _ _ W (PairsAt.later hS hW) (PairsAt.later hC hW)
  have HG : Hid (e3 p (eN th 0 5000) (eN st 0 10000) = 0 → ∀ W, Below w.heap.size w W → Calls Try.prog 73 #[.agg #[.int .i64 p.s0, .int .i64 p.s1, (.slice aS p.S.n cS), (.slice aC p.C.n cC), .int .i64 p.ne, .int .i64 p.ed, .int .i64 p.gr, .int .i64 p.lo, .int .i64 p.hi, .int .i64 p.sh, .int .i64 p.wi], .int .i64 th, .int .i64 st] W fun e w' => e = .returned (.int .i64 (limV p false th st / 1000000000000)) ∧ Below W.heap.size W w') := fun h W hW => by
    obtain ⟨h1, h2⟩ := orE_inv h
    obtain ⟨h3, h4⟩ := orE_inv h2
    exact rgreat_any p (ePl_inv h1) _ _ th st (eN_inv h3) (eN_inv h4).1 W (PairsAt.later hS hW) (PairsAt.later hC hW)
  obtain ⟨r, hr⟩ : ∃ r, (if e3 p (eN th 0 5000) (eN st 0 10000) = 0 then limV p false th st / 1000000000000 else 0) = r := ⟨_, rfl⟩
  obtain ⟨ee, hee⟩ : ∃ ee, (e3 p (eN th 0 5000) (eN st 0 10000)) = ee := ⟨_, rfl⟩
  rw [hr, hee]
  unfold e3 at HG
  generalize limV p false th st / 1000000000000 = y at HG hr
  unfold e3 at hr hee
  have HE1 := Lib.hid (outB_eN th 0 5000)
  have HE2 := Lib.hid (outB_eN st 0 10000)
  obtain ⟨x2, hx2⟩ : ∃ x, eN th 0 5000 = x := ⟨_, rfl⟩
  obtain ⟨x3, hx3⟩ : ∃ x, eN st 0 10000 = x := ⟨_, rfl⟩
  rw [hx2] at HE1 HG hr hee
  rw [hx3] at HE2 HG hr hee
  generalize ePl p = x1 at HR HG hr hee
  have O1 := Lib.hid (rout_any th 0 5000)
  have O2 := Lib.hid (rout_any st 0 10000)
  generalize outB th 0 5000 = o1 at O1 HE1
  generalize outB st 0 10000 = o2 at O2 HE2
  clear hS hC hx2 hx3
  have HH := Lib.hid (And.intro hr hee)
  clear hr hee
  have jP := Blk.new w #[.int .i64 p.s0, .int .i64 p.s1, (.slice aS p.S.n cS), (.slice aC p.C.n cC), .int .i64 p.ne, .int .i64 p.ed, .int .i64 p.gr, .int .i64 p.lo, .int .i64 p.hi, .int .i64 p.sh, .int .i64 p.wi] 26
  have jB : Below w.heap.size w (w.alloc (.cells #[.int .i64 p.s0, .int .i64 p.s1, (.slice aS p.S.n cS), (.slice aC p.C.n cC), .int .i64 p.ne, .int .i64 p.ed, .int .i64 p.gr, .int .i64 p.lo, .int .i64 p.hi, .int .i64 p.sh, .int .i64 p.wi] 26)) := by (repeat (first | exact Below.refl _ _ | assumption | refine Below.drew ?_ | refine Below.drewN ?_ _ | refine blT ?_ | refine blU ?_))
  go_enter Try.func24, Try.ntmps24
  go_upto_region 1 with fail
  obtain ⟨c0, c1, c2, c3, c4, c5, c6, c7, c8, c9, c10⟩ := jP.c11
  have zP := jP.lt
  go_wp2_with fail
  clear c0 c1 c2 c3 c4 c5 c6 c7 c8 c9 c10 zP
  refine (HR.out _ jB).mono ?_
  rintro e w1 ⟨rfl, hb⟩
  replace jP := jP.call hb
  replace jB := bwS jB (Nat.le_refl _) hb
  clear hb HR
  by_cases e1 : x1 = 0
  · subst e1
    go_wp2_with fail
    refine (O1.out _).mono ?_
    rintro e w2 ⟨rfl, rfl⟩
    cases o1 with
    | true =>
      go_wp2_with fail
      go_wp2
      obtain ⟨hr, hee⟩ := HH.out
      have E1 := HE1.out
      simp only [if_true] at E1
      subst E1
      simp [e3, orE] at hr hee
      subst hr hee
      exact bodyPost_ret (v := .tuple #[.int .i64 0, .int .i64 2]) (by simp [results, Try.results24, go_sem]) rfl ⟨rfl, jB⟩
    | false =>
      go_wp2_with fail
      refine (O2.out _).mono ?_
      rintro e w3 ⟨rfl, rfl⟩
      cases o2 with
      | true =>
        go_wp2
        obtain ⟨hr, hee⟩ := HH.out
        have E1 := HE1.out
        have E2 := HE2.out
        simp only [if_true, Bool.false_eq_true, if_false] at E1 E2
        subst E1
        subst E2
        simp [e3, orE] at hr hee
        subst hr hee
        exact bodyPost_ret (v := .tuple #[.int .i64 0, .int .i64 2]) (by simp [results, Try.results24, go_sem]) rfl ⟨rfl, jB⟩
      | false =>
        have E1 := HE1.out
        have E2 := HE2.out
        simp only [Bool.false_eq_true, if_false] at E1 E2
        subst E1
        subst E2
        have HGn := Lib.hid (HG.out rfl)
        clear HG HE1 HE2 O1 O2
        obtain ⟨c0, c1, c2, c3, c4, c5, c6, c7, c8, c9, c10⟩ := jP.c11
        have zP := jP.lt
        go_wp2_with fail
        clear c0 c1 c2 c3 c4 c5 c6 c7 c8 c9 c10 zP
        refine (HGn.out _ jB).mono ?_
        rintro e w4 ⟨rfl, hb⟩
        replace jB := bwS jB (Nat.le_refl _) hb
        clear hb
        go_wp2
        obtain ⟨hr, hee⟩ := HH.out
        simp [orE] at hr hee
        subst hr hee
        exact bodyPost_ret (v := .tuple #[.int .i64 y, .int .i64 0]) (by simp [results, Try.results24, go_sem]) rfl ⟨rfl, jB⟩
  · have e4 : (x1 != 0) = true := by simpa using e1
    have HX := Lib.hid e1
    clear e1
    go_wp2
    obtain ⟨hr, hee⟩ := HH.out
    have q := HX.out
    simp [e3, orE, q] at hr hee
    subst hr hee
    exact bodyPost_ret (v := .tuple #[.int .i64 0, .int .i64 x1]) (by simp [results, Try.results24, go_sem]) rfl ⟨rfl, jB⟩
end Go.Proofs.Ytfakmggabicdjaa

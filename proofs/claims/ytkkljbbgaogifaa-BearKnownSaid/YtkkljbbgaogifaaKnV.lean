/-
  The numbers of the chapter's examples (BearKnown). Speaks of no program.
-/
import Derived.Test.YtkkljbbgaogifaaAwkB
import Derived.Test.YtkkljbbgaogifaaLeast3
import Derived.Test.YtkkljbbgaogifaaGapN
import Derived.Test.YtkkljbbgaogifaaSpR
set_option linter.unusedVariables false
set_option linter.unusedSimpArgs false
namespace Go.Proofs.Ytkkljbbgaogifaa
open Go.RowKit

theorem e3_zero {p : Pl} (hp : p.Ok) {a b : Int} (h1 : a = 0) (h2 : b = 0) : e3 p a b = 0 := orE_ok (ePl_ok hp) (orE_ok h1 h2)
theorem kn_bears : limV pl0 false 500 59 / 1000000000000 = 10000 := by decide
theorem kn_need1 : lstV (needF pl0 10001 0) 5001 = 501 :=
  lstV_two (need_up pl0_ok 10001 0) (by decide) (fun _ => by decide) (fun j hj => (by have e : j = 500 := (by omega); subst e; decide))
theorem kn_need2 : lstV (needF pl0 200000 600) 5001 = 4473 :=
  lstV_two (need_up pl0_ok 200000 600) (by decide) (fun _ => by decide) (fun j hj => (by have e : j = 4472 := (by omega); subst e; decide))
theorem kn_needR1 : needR pl0 10001 0 = 501 ∧ needE pl0 10001 0 = 0 := by
  have e : e3 pl0 (eN 10001 0 200000) (eN 0 0 10000) = 0 := e3_zero pl0_ok (by decide) (by decide)
  unfold needR needE
  rw [if_pos e, if_pos e, kn_need1]
  exact ⟨rfl, rfl⟩
theorem kn_needR2 : needR pl0 200000 600 = 4473 ∧ needE pl0 200000 600 = 0 := by
  have e : e3 pl0 (eN 200000 0 200000) (eN 600 0 10000) = 0 := e3_zero pl0_ok (by decide) (by decide)
  unfold needR needE
  rw [if_pos e, if_pos e, kn_need2]
  exact ⟨rfl, rfl⟩
theorem stand_last {th wt : Int} (ht : 0 ≤ th) {k : Nat} (hk : k ≤ 10001) (h1 : k < 10001 → standF pl0 th wt k = false) (h2 : ∀ j : Nat, k = j + 1 → standF pl0 th wt j = true) : lastV (standF pl0 th wt) 10001 = (k : Int) - 1 := by
  rw [lastV_lst (stand_down pl0_ok ht wt)]
  rw [lstV_two (k := k) (fun i j hij q => by
    cases z : standF pl0 th wt j with
    | false => rfl
    | true => rw [stand_down pl0_ok ht wt i j hij z] at q; simp at q) hk (fun h => by rw [h1 h]; rfl) (fun j hj => by rw [h2 j hj]; rfl)]
theorem kn_stand1 : standR pl0 500 6400 = 599 := by
  have e : e3 pl0 (eN 500 0 5000) (eN 6400 0 200000) = 0 := e3_zero pl0_ok (by decide) (by decide)
  unfold standR
  rw [if_pos e, stand_last (k := 600) (by decide) (by decide) (fun _ => by decide) (fun j hj => (by have e : j = 599 := (by omega); subst e; decide))]
  rfl
theorem kn_stand2 : standR pl0 500 10001 = -1 := by
  have e : e3 pl0 (eN 500 0 5000) (eN 10001 0 200000) = 0 := e3_zero pl0_ok (by decide) (by decide)
  unfold standR
  rw [if_pos e, stand_last (k := 0) (by decide) (by decide) (fun _ => by decide) (fun j hj => by omega)]
  rfl
theorem gap_is {th : Int} {n : Nat} {W0 W1 : Nat → Int} {k : Nat} (ht : 0 ≤ th ∧ th ≤ 5000) (hn : n ≤ 30) (hW : ∀ i, i < n → 0 ≤ W0 i ∧ W0 i ≤ W1 i ∧ W1 i ≤ 200000) (hk : k ≤ 10001) (h1 : k < 10001 → gapF pl0 th n W0 W1 k = true) (h2 : ∀ j : Nat, k = j + 1 → gapF pl0 th n W0 W1 j = false) :
    gapR pl0 th n W0 W1 = (if k ≤ 10000 then (k : Int) else -1) ∧ eGap pl0 th n W0 W1 = 0 := by
  have e : eGap pl0 th n W0 W1 = 0 := orE_ok (ePl_ok pl0_ok) (orE_ok (eN_ok ht.1 ht.2) (eSps_ok (by omega) hW))
  refine ⟨?_, e⟩
  unfold gapR gapV
  rw [if_pos e, lstV_two (gapF_up pl0_ok (fun i hi => by have := hW i hi; omega)) hk h1 h2]
theorem run_no {f : Nat → Bool} {s : Nat} : ∀ n, (∀ v, s ≤ v → v < s + n → f v = false) → spV f (s + n) = spV f s
  | 0, _ => rfl
  | n + 1, h => by
    show spV f (s + n + 1) = _
    rw [spV, if_neg (by rw [h (s + n) (by omega) (by omega)]; simp)]
    exact run_no n (fun v a b => h v a (by omega))
theorem run_yes {f : Nat → Bool} {s m : Nat} {A B : Nat → Int} (h0 : spV f s = ⟨m + 1, A, B⟩) (hB : B m = (s : Int) - 1) : ∀ n, (∀ v, s ≤ v → v < s + n → f v = true) →
    ∃ B', spV f (s + n) = ⟨m + 1, A, B'⟩ ∧ B' m = ((s + n : Nat) : Int) - 1 ∧ ∀ i, i < m → B' i = B i
  | 0, _ => ⟨B, h0, hB, fun _ _ => rfl⟩
  | n + 1, h => by
    obtain ⟨B', h1, h2, h3⟩ := run_yes h0 hB n (fun v a b => h v a (by omega))
    refine ⟨upI B' m ((s + n : Nat) : Int), ?_, by rw [upI_at]; omega, fun i hi => by rw [upI_ne _ _ _ _ (by omega)]; exact h3 i hi⟩
    show spV f (s + n + 1) = _
    rw [spV, if_pos (h (s + n) (by omega) (by omega)), h1, spStep_join h2]
theorem two_runs {f : Nat → Bool} {a b : Nat} (hab : a + 1 < b) (hb : b ≤ 1000) (h1 : ∀ v, v ≤ a → f v = true) (h2 : ∀ v, a < v → v < b → f v = false) (h3 : ∀ v, b ≤ v → v ≤ 1000 → f v = true) :
    ∃ A B, spV f 1001 = ⟨2, A, B⟩ ∧ A 0 = 0 ∧ B 0 = (a : Int) ∧ A 1 = (b : Int) ∧ B 1 = 1000 := by
  have s1 : spV f 1 = ⟨1, upI (fun _ => 0) 0 ((0 : Nat) : Int), upI (fun _ => 0) 0 ((0 : Nat) : Int)⟩ := by
    show (if f 0 = true then spStep (spV f 0) 0 else spV f 0) = _
    rw [if_pos (h1 0 (by omega))]
    exact spStep_none
  obtain ⟨B1, r1, r2, _⟩ := run_yes (m := 0) s1 (by rw [upI_at]; rfl) a (fun v x y => h1 v (by omega))
  have r3 : spV f b = spV f (1 + a) := by
    have := run_no (f := f) (s := 1 + a) (b - (1 + a)) (fun v x y => h2 v (by omega) (by omega))
    rwa [show 1 + a + (b - (1 + a)) = b by omega] at this
  have s2 : spV f (b + 1) = ⟨2, upI (upI (fun _ => 0) 0 ((0 : Nat) : Int)) 1 (b : Int), upI B1 1 (b : Int)⟩ := by
    rw [spV, if_pos (h3 b (Nat.le_refl _) hb), r3, r1, spStep_apart (by rw [r2]; omega)]
  obtain ⟨B2, t1, t2, t3⟩ := run_yes (m := 1) s2 (by rw [upI_at]; omega) (1000 - b) (fun v x y => h3 v (by omega) (by omega))
  rw [show b + 1 + (1000 - b) = 1001 by omega] at t1 t2
  refine ⟨_, B2, t1, ?_, ?_, ?_, ?_⟩
  · rw [upI_ne _ _ _ _ (by decide), upI_at]; rfl
  · rw [t3 0 (by decide), upI_ne _ _ _ _ (by decide)]
    have : B1 0 = ((1 + a : Nat) : Int) - 1 := r2
    omega
  · rw [upI_at]
  · have : B2 1 = ((1001 : Nat) : Int) - 1 := t2
    omega
theorem spd_runs {d0 d1 sh : Int} {a b : Nat} (hw : eWav pl0 d0 d1 sh = 0) (hab : a + 1 < b) (hb : b ≤ 1000) (h : ∀ v, v < 1001 → spdF pl0 d0 d1 sh v = (decide (v ≤ a) || decide (b ≤ v))) :
    ∃ A B, spdS pl0 d0 d1 sh = ⟨2, A, B⟩ ∧ A 0 = 0 ∧ B 0 = (a : Int) ∧ A 1 = (b : Int) ∧ B 1 = 1000 := by
  unfold spdS
  rw [if_pos hw]
  exact two_runs hab hb (fun v hv => by rw [h v (by omega)]; simp [hv]) (fun v h1 h2 => by rw [h v (by omega)]; simp; omega) (fun v h1 h2 => by rw [h v (by omega)]; simp [h1])
set_option maxRecDepth 100000 in
theorem kn_spd1 : ∀ v, v < 1001 → spdF pl0 50 50 100 v = (decide (v ≤ 55) || decide (85 ≤ v)) := by decide +kernel
set_option maxRecDepth 100000 in
theorem kn_spd2 : ∀ v, v < 1001 → spdF pl0 40 50 100 v = (decide (v ≤ 50) || decide (85 ≤ v)) := by decide +kernel
set_option maxRecDepth 100000 in
theorem kn_spd3 : ∀ v, v < 1001 → spdF pl0 50 50 49 v = (decide (v ≤ 48) || decide (94 ≤ v)) := by decide +kernel
end Go.Proofs.Ytkkljbbgaogifaa

/-
  The reference's checks (package sastrugiref06).
-/
import Derived.Test.YtegdflikeoiaaaaTail
import Derived.Test.YtegdflikeoiaaaaLas
set_option linter.unusedVariables false
set_option linter.unusedSimpArgs false
namespace Go.Proofs.Ytegdflikeoiaaaa
open Go.RowKit

set_option maxRecDepth 100000 in
theorem within_any (x lo hi : Int) (w : World) : Calls Try.prog 87 #[.int .i64 x, .int .i64 lo, .int .i64 hi] w fun e w' => e = .returned (.bool (decide (lo ≤ x) && decide (x ≤ hi))) ∧ Below w.heap.size w w' := by
  have hB := Below.refl w.heap.size w
  by_cases h : lo ≤ x
  · have e1 : decide (lo ≤ x) = true := by simpa using h
    by_cases h2 : x ≤ hi
    · have e2 : decide (x ≤ hi) = true := by simpa using h2
      rw [e1, e2]
      go_enter Try.func87, Try.ntmps87
      go_wp2
      go_ret
      exact ⟨rfl, hB⟩
    · have e2 : decide (x ≤ hi) = false := by simpa using h2
      rw [e1, e2]
      go_enter Try.func87, Try.ntmps87
      go_wp2
      go_ret
      exact ⟨rfl, hB⟩
  · have e1 : decide (lo ≤ x) = false := by simpa using h
    rw [e1]
    go_enter Try.func87, Try.ntmps87
    go_wp2
    go_ret
    exact ⟨rfl, hB⟩

theorem eN_in {x lo hi : Int} (h : (decide (lo ≤ x) && decide (x ≤ hi)) = true) : eN x lo hi = 0 := by
  simp at h
  unfold eN
  rw [if_neg (by omega)]
theorem eN_out {x lo hi : Int} (h : (decide (lo ≤ x) && decide (x ≤ hi)) = false) : eN x lo hi = 2 := by
  simp at h
  unfold eN
  by_cases g : lo ≤ x
  · have := h g; rw [if_pos (by omega)]
  · rw [if_pos (by omega)]
set_option maxRecDepth 100000 in
theorem rsp_any (lo hi a b : Int) (w : World) : Calls Try.prog 73 #[.agg #[.int .i64 lo, .int .i64 hi], .int .i64 a, .int .i64 b] w fun e w' => e = .returned (.int .i64 (eS lo hi a b)) ∧ Below w.heap.size w w' := by
  have jT := Blk.new w #[.int .i64 lo, .int .i64 hi] 26
  have jB : Below w.heap.size w (w.alloc (.cells #[.int .i64 lo, .int .i64 hi] 26)) := by (repeat (first | exact Below.refl _ _ | assumption | refine Below.drew ?_ | refine Below.drewN ?_ _ | refine blT ?_ | refine blU ?_))
  have K0 := Lib.hid (fun (W : World) => within_any lo a b W)
  have K1 := Lib.hid (fun (W : World) => within_any hi a b W)
  cases h0 : (decide (a ≤ lo) && decide (lo ≤ b)) with
  | false =>
    have hE := Lib.hid (show eS lo hi a b = 2 by unfold eS eR; rw [eN_out h0]; rfl)
    simp only [h0] at K0
    clear h0
    go_enter Try.func73, Try.ntmps73
    go_wp2_with fail
    refine (K0.out _).mono ?_
    rintro e w2 ⟨rfl, hb⟩
    replace jB := bwS jB (Nat.le_refl _) hb
    clear hb K0 K1 jT
    go_wp2
    go_ret
    exact ⟨by rw [hE.out]; rfl, jB⟩
  | true =>
    simp only [h0] at K0
    have h0' := eN_in h0
    clear h0
    go_enter Try.func73, Try.ntmps73
    go_wp2_with fail
    refine (K0.out _).mono ?_
    rintro e w2 ⟨rfl, hb⟩
    replace jT := jT.call hb
    replace jB := bwS jB (Nat.le_refl _) hb
    clear hb K0
    obtain ⟨c0, c1⟩ := jT.c2
    go_wp2_with fail
    refine (K1.out _).mono ?_
    rintro e w3 ⟨rfl, hb⟩
    replace jT := jT.call hb
    replace jB := bwS jB (Nat.le_refl _) hb
    clear hb K1 c0 c1
    obtain ⟨c0, c1⟩ := jT.c2
    cases h1 : (decide (a ≤ hi) && decide (hi ≤ b)) with
    | false =>
      have hE := Lib.hid (show eS lo hi a b = 2 by unfold eS eR; rw [h0', eN_out h1]; rfl)
      clear h0' h1
      go_wp2
      go_ret
      exact ⟨by rw [hE.out]; rfl, jB⟩
    | true =>
      have h1' := eN_in h1
      clear h1
      by_cases h2 : hi < lo
      · have hE := Lib.hid (show eS lo hi a b = 11 by unfold eS eR; rw [h0', h1', decide_eq_false (by omega)]; rfl)
        clear h0' h1'
        go_wp2
        go_ret
        exact ⟨by rw [hE.out]; rfl, jB⟩
      · have hE := Lib.hid (show eS lo hi a b = 0 by unfold eS eR; rw [h0', h1', decide_eq_true (by omega)]; rfl)
        clear h0' h1'
        go_wp2
        go_ret
        exact ⟨by rw [hE.out]; rfl, jB⟩
end Go.Proofs.Ytegdflikeoiaaaa

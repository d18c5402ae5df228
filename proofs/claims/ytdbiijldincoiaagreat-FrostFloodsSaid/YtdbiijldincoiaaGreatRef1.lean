/-
  The reference's checks of spans and of ice, and its Core: what they return, whatever comes in.
-/
import Derived.Test.YtdbiijldincoiaaGreatTail
import Derived.Test.YtdbiijldincoiaaGreatVal0
import Derived.Test.YtdbiijldincoiaaGreatStep
import Derived.Test.YtdbiijldincoiaaGreatShare
set_option linter.unusedVariables false
set_option linter.unusedSimpArgs false
namespace Go.Proofs.YtdbiijldincoiaaGreat
open Go.RowKit

def outB (n lo hi : Int) : Bool := decide (n < lo) || decide (hi < n)
theorem rout_any (n lo hi : Int) (w : World) :
    Calls Tryz.prog 52 #[.int .i64 n, .int .i64 lo, .int .i64 hi] w fun e w' => e = .returned (.bool (outB n lo hi)) ∧ w = w' := by
  by_cases h1 : n < lo
  · go_enter Tryz.func52, Tryz.ntmps52
    go_wp2
    go_ret
    exact ⟨by simp [outB, h1], rfl⟩
  · by_cases h2 : hi < n
    · go_enter Tryz.func52, Tryz.ntmps52
      go_wp2
      go_ret
      exact ⟨by simp [outB, h2], rfl⟩
    · have e : outB n lo hi = false := by simp [outB]; omega
      rw [e]
      go_enter Tryz.func52, Tryz.ntmps52
      go_wp2
      go_ret
      exact ⟨by simp, rfl⟩

theorem outB_eN (n lo hi : Int) : eN n lo hi = if outB n lo hi then 2 else 0 := by
  unfold eN outB
  by_cases h1 : n < lo <;> by_cases h2 : hi < n <;> simp [h1, h2]
theorem eS_out1 {lo hi a b : Int} (h : outB lo a b = true) : eS lo hi a b = 2 := by
  simp [eS, eR, outB_eN, h, orE]
theorem eS_out2 {lo hi a b : Int} (h : outB lo a b = false) (h2 : outB hi a b = true) : eS lo hi a b = 2 := by
  simp [eS, eR, outB_eN, h, h2, orE]
theorem eS_ord {lo hi a b : Int} (h : outB lo a b = false) (h2 : outB hi a b = false) (h3 : hi < lo) : eS lo hi a b = 11 := by
  have : ¬ lo ≤ hi := by omega
  simp [eS, eR, outB_eN, h, h2, orE, eO, this]
theorem eS_in {lo hi a b : Int} (h : outB lo a b = false) (h2 : outB hi a b = false) (h3 : ¬ hi < lo) : eS lo hi a b = 0 := by
  have : lo ≤ hi := by omega
  simp [eS, eR, outB_eN, h, h2, orE, eO, this]

set_option maxRecDepth 100000 in
set_option maxHeartbeats 1000000 in
theorem rspan_any (lo hi a b : Int) (w : World) :
    Calls Tryz.prog 68 #[.agg #[.int .i64 lo, .int .i64 hi], .int .i64 a, .int .i64 b] w fun e w' => e = .returned (.int .i64 (eS lo hi a b)) ∧ Below w.heap.size w w' := by
  have jX := Blk.new w #[.int .i64 lo, .int .i64 hi] 24
  have jB : Below w.heap.size w (w.alloc (.cells #[.int .i64 lo, .int .i64 hi] 24)) := by (repeat (first | exact Below.refl _ _ | assumption | refine Below.drew ?_ | refine Below.drewN ?_ _ | refine blT ?_ | refine blU ?_))
  obtain ⟨x0, x1⟩ := jX.c2
  cases h1 : outB lo a b with
  | true =>
    rw [eS_out1 h1]
    go_enter Tryz.func68, Tryz.ntmps68
    go_wp2_with (go_at_call 52; refine (rout_any _ _ _ _).mono ?_; rintro e w' ⟨rfl, rfl⟩)
    go_ret
    exact ⟨rfl, jB⟩
  | false =>
    cases h2 : outB hi a b with
    | true =>
      rw [eS_out2 h1 h2]
      go_enter Tryz.func68, Tryz.ntmps68
      go_wp2_with (go_at_call 52; refine (rout_any _ _ _ _).mono ?_; rintro e w' ⟨rfl, rfl⟩)
      go_ret
      exact ⟨rfl, jB⟩
    | false =>
      by_cases h3 : hi < lo
      · rw [eS_ord h1 h2 h3]
        go_enter Tryz.func68, Tryz.ntmps68
        go_wp2_with (go_at_call 52; refine (rout_any _ _ _ _).mono ?_; rintro e w' ⟨rfl, rfl⟩)
        go_ret
        exact ⟨rfl, jB⟩
      · rw [eS_in h1 h2 h3]
        go_enter Tryz.func68, Tryz.ntmps68
        go_wp2_with (go_at_call 52; refine (rout_any _ _ _ _).mono ?_; rintro e w' ⟨rfl, rfl⟩)
        go_ret
        exact ⟨rfl, jB⟩

set_option maxRecDepth 100000 in
set_option maxHeartbeats 4000000 in
theorem rice_any (x : Ic) (w : World) :
    Calls Tryz.prog 63 #[.agg #[.int .i64 x.b0, .int .i64 x.b1, .int .i64 x.w0, .int .i64 x.w1, .int .i64 x.q0, .int .i64 x.q1, .int .i64 x.s0, .int .i64 x.s1]] w fun e w' => e = .returned (.int .i64 x.e) ∧ Below w.heap.size w w' := by
  have jX := Blk.new w #[.int .i64 x.b0, .int .i64 x.b1, .int .i64 x.w0, .int .i64 x.w1, .int .i64 x.q0, .int .i64 x.q1, .int .i64 x.s0, .int .i64 x.s1] 28
  have jB : Below w.heap.size w ((w.alloc (.cells #[.int .i64 x.b0, .int .i64 x.b1, .int .i64 x.w0, .int .i64 x.w1, .int .i64 x.q0, .int .i64 x.q1, .int .i64 x.s0, .int .i64 x.s1] 28)).alloc (.cells #[.int .i64 x.b0, .int .i64 x.b1, .int .i64 x.w0, .int .i64 x.w1, .int .i64 x.q0, .int .i64 x.q1, .int .i64 x.s0, .int .i64 x.s1] 24)) := by (repeat (first | exact Below.refl _ _ | assumption | refine Below.drew ?_ | refine Below.drewN ?_ _ | refine blT ?_ | refine blU ?_))
  have jS := Blk.new1 w (.cells #[.int .i64 x.b0, .int .i64 x.b1, .int .i64 x.w0, .int .i64 x.w1, .int .i64 x.q0, .int .i64 x.q1, .int .i64 x.s0, .int .i64 x.s1] 28) #[.int .i64 x.b0, .int .i64 x.b1, .int .i64 x.w0, .int .i64 x.w1, .int .i64 x.q0, .int .i64 x.q1, .int .i64 x.s0, .int .i64 x.s1] 24
  obtain ⟨x0, x1, x2, x3, x4, x5, x6, x7⟩ := jX.c8
  go_enter Tryz.func63, Tryz.ntmps63
  go_wp2_with fail
  clear jX x0 x1 x2 x3 x4 x5 x6 x7
  go_loopw [4] (fun i wr => ∃ k : Nat, k ≤ 4 ∧ i = .int .i64 k ∧ Blk wr (w.heap.size + 1) #[.int .i64 x.b0, .int .i64 x.b1, .int .i64 x.w0, .int .i64 x.w1, .int .i64 x.q0, .int .i64 x.q1, .int .i64 x.s0, .int .i64 x.s1] 24 ∧ Hid (x.e = firstNZ (iceE x.b0 x.b1 x.w0 x.w1 x.q0 x.q1 x.s0 x.s1) k (4 - k)) ∧ Below w.heap.size w wr) (fun i _ => 4 - (intOf i).toNat)
  case atStart => exact ⟨0, by omega, rfl, jS, rfl, jB⟩
  case round =>
    obtain ⟨k, hk, rfl, hS, HD, hB⟩ := hrel
    clear jS jB
    obtain ⟨a0, a1, a2, a3, a4, a5, a6, a7⟩ := hS.c8
    have zS := hS.lt
    obtain rfl | rfl | rfl | rfl | rfl : k = 0 ∨ k = 1 ∨ k = 2 ∨ k = 3 ∨ k = 4 := by omega
    · by_cases hz2 : eS x.b0 x.b1 0 5000 = 0
      · have H0 := Lib.hid (firstNZ_step0 (iceE x.b0 x.b1 x.w0 x.w1 x.q0 x.q1 x.s0 x.s1) 4 0 (by omega) hz2)
        have hz3 : (eS x.b0 x.b1 0 5000 != 0) = false := by simpa using hz2
        clear hz2
        go_wp2_with (go_at_call 68; refine (rspan_any _ _ _ _ _).mono ?_; rintro e w2 ⟨rfl, hb2⟩)
        go_roundw
        case rel => exact ⟨0 + 1, by omega, by go_num, hS.call hb2, HD.out.trans H0.out, bwS hB (Nat.le_refl _) hb2⟩
        case measure => simp [intOf]
      · have H0 := Lib.hid (firstNZ_stepN (iceE x.b0 x.b1 x.w0 x.w1 x.q0 x.q1 x.s0 x.s1) 4 0 (by omega) hz2)
        have hz3 : (eS x.b0 x.b1 0 5000 != 0) = true := by simpa using hz2
        clear hz2
        go_wp2_with (go_at_call 68; refine (rspan_any _ _ _ _ _).mono ?_; rintro e w2 ⟨rfl, hb2⟩)
        go_ret
        exact ⟨ret_int (HD.out.trans H0.out).symm, bwS hB (Nat.le_refl _) hb2⟩
    · by_cases hz2 : eS x.w0 x.w1 0 5000 = 0
      · have H0 := Lib.hid (firstNZ_step0 (iceE x.b0 x.b1 x.w0 x.w1 x.q0 x.q1 x.s0 x.s1) 4 1 (by omega) hz2)
        have hz3 : (eS x.w0 x.w1 0 5000 != 0) = false := by simpa using hz2
        clear hz2
        go_wp2_with (go_at_call 68; refine (rspan_any _ _ _ _ _).mono ?_; rintro e w2 ⟨rfl, hb2⟩)
        go_roundw
        case rel => exact ⟨1 + 1, by omega, by go_num, hS.call hb2, HD.out.trans H0.out, bwS hB (Nat.le_refl _) hb2⟩
        case measure => simp [intOf]
      · have H0 := Lib.hid (firstNZ_stepN (iceE x.b0 x.b1 x.w0 x.w1 x.q0 x.q1 x.s0 x.s1) 4 1 (by omega) hz2)
        have hz3 : (eS x.w0 x.w1 0 5000 != 0) = true := by simpa using hz2
        clear hz2
        go_wp2_with (go_at_call 68; refine (rspan_any _ _ _ _ _).mono ?_; rintro e w2 ⟨rfl, hb2⟩)
        go_ret
        exact ⟨ret_int (HD.out.trans H0.out).symm, bwS hB (Nat.le_refl _) hb2⟩
    · by_cases hz2 : eS x.q0 x.q1 0 5000 = 0
      · have H0 := Lib.hid (firstNZ_step0 (iceE x.b0 x.b1 x.w0 x.w1 x.q0 x.q1 x.s0 x.s1) 4 2 (by omega) hz2)
        have hz3 : (eS x.q0 x.q1 0 5000 != 0) = false := by simpa using hz2
        clear hz2
        go_wp2_with (go_at_call 68; refine (rspan_any _ _ _ _ _).mono ?_; rintro e w2 ⟨rfl, hb2⟩)
        go_roundw
        case rel => exact ⟨2 + 1, by omega, by go_num, hS.call hb2, HD.out.trans H0.out, bwS hB (Nat.le_refl _) hb2⟩
        case measure => simp [intOf]
      · have H0 := Lib.hid (firstNZ_stepN (iceE x.b0 x.b1 x.w0 x.w1 x.q0 x.q1 x.s0 x.s1) 4 2 (by omega) hz2)
        have hz3 : (eS x.q0 x.q1 0 5000 != 0) = true := by simpa using hz2
        clear hz2
        go_wp2_with (go_at_call 68; refine (rspan_any _ _ _ _ _).mono ?_; rintro e w2 ⟨rfl, hb2⟩)
        go_ret
        exact ⟨ret_int (HD.out.trans H0.out).symm, bwS hB (Nat.le_refl _) hb2⟩
    · by_cases hz2 : eS x.s0 x.s1 0 5000 = 0
      · have H0 := Lib.hid (firstNZ_step0 (iceE x.b0 x.b1 x.w0 x.w1 x.q0 x.q1 x.s0 x.s1) 4 3 (by omega) hz2)
        have hz3 : (eS x.s0 x.s1 0 5000 != 0) = false := by simpa using hz2
        clear hz2
        go_wp2_with (go_at_call 68; refine (rspan_any _ _ _ _ _).mono ?_; rintro e w2 ⟨rfl, hb2⟩)
        go_roundw
        case rel => exact ⟨3 + 1, by omega, by go_num, hS.call hb2, HD.out.trans H0.out, bwS hB (Nat.le_refl _) hb2⟩
        case measure => simp [intOf]
      · have H0 := Lib.hid (firstNZ_stepN (iceE x.b0 x.b1 x.w0 x.w1 x.q0 x.q1 x.s0 x.s1) 4 3 (by omega) hz2)
        have hz3 : (eS x.s0 x.s1 0 5000 != 0) = true := by simpa using hz2
        clear hz2
        go_wp2_with (go_at_call 68; refine (rspan_any _ _ _ _ _).mono ?_; rintro e w2 ⟨rfl, hb2⟩)
        go_ret
        exact ⟨ret_int (HD.out.trans H0.out).symm, bwS hB (Nat.le_refl _) hb2⟩
    · go_wp2
      go_ret
      exact ⟨ret_int HD.out.symm, hB⟩

end Go.Proofs.YtdbiijldincoiaaGreat

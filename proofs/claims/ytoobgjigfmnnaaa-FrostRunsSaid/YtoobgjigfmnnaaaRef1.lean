/-
  The reference's checks of spans and of ice, and its Core: what they return, whatever comes in.
-/
import Derived.Test.YtoobgjigfmnnaaaTail
import Derived.Test.YtoobgjigfmnnaaaCore
import Derived.Test.YtoobgjigfmnnaaaShare
set_option linter.unusedVariables false
set_option linter.unusedSimpArgs false
namespace Go.Proofs.Ytoobgjigfmnnaaa
open Go.RowKit

def outB (n lo hi : Int) : Bool := decide (n < lo) || decide (hi < n)
theorem rout_any (n lo hi : Int) (w : World) :
    Calls Try.prog 74 #[.int .i64 n, .int .i64 lo, .int .i64 hi] w fun e w' => e = .returned (.bool (outB n lo hi)) ∧ w = w' := by
  by_cases h1 : n < lo
  · go_enter Try.func74, Try.ntmps74
    go_wp2
    go_ret
    exact ⟨by simp [outB, h1], rfl⟩
  · by_cases h2 : hi < n
    · go_enter Try.func74, Try.ntmps74
      go_wp2
      go_ret
      exact ⟨by simp [outB, h2], rfl⟩
    · have e : outB n lo hi = false := by simp [outB]; omega
      rw [e]
      go_enter Try.func74, Try.ntmps74
      go_wp2
      go_ret
      exact ⟨by simp, rfl⟩

theorem outB_eN (n lo hi : Int) : eN n lo hi = if outB n lo hi then 2 else 0 := by
  unfold eN outB
  by_cases h1 : n < lo <;> by_cases h2 : hi < n <;> simp [h1, h2]
theorem eS_out1 {lo hi a b : Int} (h : outB lo a b = true) : eS lo hi a b = 2 := by
  simp [eS, eR, outB_eN, h, orE]
theorem eS_out2 {lo hi a b : Int} (h : outB lo a b = false) (h2 : outB hi a b = true) : eS lo hi a b = 2 := by
  simp [eS, eR, outB_eN, h, h2, orE]
theorem eS_ord {lo hi a b : Int} (h : outB lo a b = false) (h2 : outB hi a b = false) (h3 : hi < lo) : eS lo hi a b = 11 := by
  have : ¬ lo ≤ hi := by omega
  simp [eS, eR, outB_eN, h, h2, orE, eO, this]
theorem eS_in {lo hi a b : Int} (h : outB lo a b = false) (h2 : outB hi a b = false) (h3 : ¬ hi < lo) : eS lo hi a b = 0 := by
  have : lo ≤ hi := by omega
  simp [eS, eR, outB_eN, h, h2, orE, eO, this]

set_option maxRecDepth 100000 in
set_option maxHeartbeats 1000000 in
theorem rspan_any (lo hi a b : Int) (w : World) :
    Calls Try.prog 76 #[.agg #[.int .i64 lo, .int .i64 hi], .int .i64 a, .int .i64 b] w fun e w' => e = .returned (.int .i64 (eS lo hi a b)) ∧ Below w.heap.size w w' := by
  have jX := Blk.new w #[.int .i64 lo, .int .i64 hi] 24
  have jB : Below w.heap.size w (w.alloc (.cells #[.int .i64 lo, .int .i64 hi] 24)) := by (repeat (first | exact Below.refl _ _ | assumption | refine Below.drew ?_ | refine Below.drewN ?_ _ | refine blT ?_ | refine blU ?_))
  obtain ⟨x0, x1⟩ := jX.c2
  cases h1 : outB lo a b with
  | true =>
    rw [eS_out1 h1]
    go_enter Try.func76, Try.ntmps76
    go_wp2_with (go_at_call 74; refine (rout_any _ _ _ _).mono ?_; rintro e w' ⟨rfl, rfl⟩)
    go_ret
    exact ⟨rfl, jB⟩
  | false =>
    cases h2 : outB hi a b with
    | true =>
      rw [eS_out2 h1 h2]
      go_enter Try.func76, Try.ntmps76
      go_wp2_with (go_at_call 74; refine (rout_any _ _ _ _).mono ?_; rintro e w' ⟨rfl, rfl⟩)
      go_ret
      exact ⟨rfl, jB⟩
    | false =>
      by_cases h3 : hi < lo
      · rw [eS_ord h1 h2 h3]
        go_enter Try.func76, Try.ntmps76
        go_wp2_with (go_at_call 74; refine (rout_any _ _ _ _).mono ?_; rintro e w' ⟨rfl, rfl⟩)
        go_ret
        exact ⟨rfl, jB⟩
      · rw [eS_in h1 h2 h3]
        go_enter Try.func76, Try.ntmps76
        go_wp2_with (go_at_call 74; refine (rout_any _ _ _ _).mono ?_; rintro e w' ⟨rfl, rfl⟩)
        go_ret
        exact ⟨rfl, jB⟩

theorem common_any (a b c d : Int) (w : World) :
    Calls Try.prog 91 #[.agg #[.int .i64 a, .int .i64 b], .agg #[.int .i64 c, .int .i64 d]] w fun e w' => e = .returned (.agg #[.int .i64 (max a c), .int .i64 (min b d)]) ∧ Below w.heap.size w w' := by
  go_enter Try.func91, Try.ntmps91
  go_wp2
  refine bodyPost_ret (v := .agg #[.int .i64 (max a c), .int .i64 (min b d)]) (by simp [results, Try.results91, go_sem]) rfl ⟨rfl, by (repeat (first | exact Below.refl _ _ | assumption | refine Below.drew ?_ | refine Below.drewN ?_ _ | refine blT ?_ | refine blU ?_))⟩

set_option maxRecDepth 100000 in
set_option maxHeartbeats 4000000 in
theorem rice_any (x : Ic) (w : World) :
    Calls Try.prog 24 #[.agg #[.int .i64 x.b0, .int .i64 x.b1, .int .i64 x.w0, .int .i64 x.w1, .int .i64 x.q0, .int .i64 x.q1, .int .i64 x.s0, .int .i64 x.s1]] w fun e w' => e = .returned (.int .i64 x.e) ∧ Below w.heap.size w w' := by
  have jX := Blk.new w #[.int .i64 x.b0, .int .i64 x.b1, .int .i64 x.w0, .int .i64 x.w1, .int .i64 x.q0, .int .i64 x.q1, .int .i64 x.s0, .int .i64 x.s1] 28
  have jB : Below w.heap.size w ((w.alloc (.cells #[.int .i64 x.b0, .int .i64 x.b1, .int .i64 x.w0, .int .i64 x.w1, .int .i64 x.q0, .int .i64 x.q1, .int .i64 x.s0, .int .i64 x.s1] 28)).alloc (.cells #[.int .i64 x.b0, .int .i64 x.b1, .int .i64 x.w0, .int .i64 x.w1, .int .i64 x.q0, .int .i64 x.q1, .int .i64 x.s0, .int .i64 x.s1] 24)) := by (repeat (first | exact Below.refl _ _ | assumption | refine Below.drew ?_ | refine Below.drewN ?_ _ | refine blT ?_ | refine blU ?_))
  have jS := Blk.new1 w (.cells #[.int .i64 x.b0, .int .i64 x.b1, .int .i64 x.w0, .int .i64 x.w1, .int .i64 x.q0, .int .i64 x.q1, .int .i64 x.s0, .int .i64 x.s1] 28) #[.int .i64 x.b0, .int .i64 x.b1, .int .i64 x.w0, .int .i64 x.w1, .int .i64 x.q0, .int .i64 x.q1, .int .i64 x.s0, .int .i64 x.s1] 24
  obtain ⟨x0, x1, x2, x3, x4, x5, x6, x7⟩ := jX.c8
  go_enter Try.func24, Try.ntmps24
  go_wp2_with fail
  clear jX x0 x1 x2 x3 x4 x5 x6 x7
  go_loopw [4] (fun i wr => ∃ k : Nat, k ≤ 4 ∧ i = .int .i64 k ∧ Blk wr (w.heap.size + 1) #[.int .i64 x.b0, .int .i64 x.b1, .int .i64 x.w0, .int .i64 x.w1, .int .i64 x.q0, .int .i64 x.q1, .int .i64 x.s0, .int .i64 x.s1] 24 ∧ Hid (x.e = firstNZ (iceE x.b0 x.b1 x.w0 x.w1 x.q0 x.q1 x.s0 x.s1) k (4 - k)) ∧ Below w.heap.size w wr) (fun i _ => 4 - (intOf i).toNat)
  case atStart => exact ⟨0, by omega, rfl, jS, rfl, jB⟩
  case round =>
    obtain ⟨k, hk, rfl, hS, HD, hB⟩ := hrel
    clear jS jB
    obtain ⟨a0, a1, a2, a3, a4, a5, a6, a7⟩ := hS.c8
    have zS := hS.lt
    obtain rfl | rfl | rfl | rfl | rfl : k = 0 ∨ k = 1 ∨ k = 2 ∨ k = 3 ∨ k = 4 := by omega
    · by_cases hz2 : eS x.b0 x.b1 0 5000 = 0
      · have H0 := Lib.hid (firstNZ_step0 (iceE x.b0 x.b1 x.w0 x.w1 x.q0 x.q1 x.s0 x.s1) 4 0 (by omega) hz2)
        have hz3 : (eS x.b0 x.b1 0 5000 != 0) = false := by simpa using hz2
        clear hz2
        go_wp2_with (go_at_call 76; refine (rspan_any _ _ _ _ _).mono ?_; rintro e w2 ⟨rfl, hb2⟩)
        go_roundw
        case rel => exact ⟨0 + 1, by omega, by go_num, hS.call hb2, HD.out.trans H0.out, bwS hB (Nat.le_refl _) hb2⟩
        case measure => simp [intOf]
      · have H0 := Lib.hid (firstNZ_stepN (iceE x.b0 x.b1 x.w0 x.w1 x.q0 x.q1 x.s0 x.s1) 4 0 (by omega) hz2)
        have hz3 : (eS x.b0 x.b1 0 5000 != 0) = true := by simpa using hz2
        clear hz2
        go_wp2_with (go_at_call 76; refine (rspan_any _ _ _ _ _).mono ?_; rintro e w2 ⟨rfl, hb2⟩)
        go_ret
        exact ⟨ret_int (HD.out.trans H0.out).symm, bwS hB (Nat.le_refl _) hb2⟩
    · by_cases hz2 : eS x.w0 x.w1 0 5000 = 0
      · have H0 := Lib.hid (firstNZ_step0 (iceE x.b0 x.b1 x.w0 x.w1 x.q0 x.q1 x.s0 x.s1) 4 1 (by omega) hz2)
        have hz3 : (eS x.w0 x.w1 0 5000 != 0) = false := by simpa using hz2
        clear hz2
        go_wp2_with (go_at_call 76; refine (rspan_any _ _ _ _ _).mono ?_; rintro e w2 ⟨rfl, hb2⟩)
        go_roundw
        case rel => exact ⟨1 + 1, by omega, by go_num, hS.call hb2, HD.out.trans H0.out, bwS hB (Nat.le_refl _) hb2⟩
        case measure => simp [intOf]
      · have H0 := Lib.hid (firstNZ_stepN (iceE x.b0 x.b1 x.w0 x.w1 x.q0 x.q1 x.s0 x.s1) 4 1 (by omega) hz2)
        have hz3 : (eS x.w0 x.w1 0 5000 != 0) = true := by simpa using hz2
        clear hz2
        go_wp2_with (go_at_call 76; refine (rspan_any _ _ _ _ _).mono ?_; rintro e w2 ⟨rfl, hb2⟩)
        go_ret
        exact ⟨ret_int (HD.out.trans H0.out).symm, bwS hB (Nat.le_refl _) hb2⟩
    · by_cases hz2 : eS x.q0 x.q1 0 5000 = 0
      · have H0 := Lib.hid (firstNZ_step0 (iceE x.b0 x.b1 x.w0 x.w1 x.q0 x.q1 x.s0 x.s1) 4 2 (by omega) hz2)
        have hz3 : (eS x.q0 x.q1 0 5000 != 0) = false := by simpa using hz2
        clear hz2
        go_wp2_with (go_at_call 76; refine (rspan_any _ _ _ _ _).mono ?_; rintro e w2 ⟨rfl, hb2⟩)
        go_roundw
        case rel => exact ⟨2 + 1, by omega, by go_num, hS.call hb2, HD.out.trans H0.out, bwS hB (Nat.le_refl _) hb2⟩
        case measure => simp [intOf]
      · have H0 := Lib.hid (firstNZ_stepN (iceE x.b0 x.b1 x.w0 x.w1 x.q0 x.q1 x.s0 x.s1) 4 2 (by omega) hz2)
        have hz3 : (eS x.q0 x.q1 0 5000 != 0) = true := by simpa using hz2
        clear hz2
        go_wp2_with (go_at_call 76; refine (rspan_any _ _ _ _ _).mono ?_; rintro e w2 ⟨rfl, hb2⟩)
        go_ret
        exact ⟨ret_int (HD.out.trans H0.out).symm, bwS hB (Nat.le_refl _) hb2⟩
    · by_cases hz2 : eS x.s0 x.s1 0 5000 = 0
      · have H0 := Lib.hid (firstNZ_step0 (iceE x.b0 x.b1 x.w0 x.w1 x.q0 x.q1 x.s0 x.s1) 4 3 (by omega) hz2)
        have hz3 : (eS x.s0 x.s1 0 5000 != 0) = false := by simpa using hz2
        clear hz2
        go_wp2_with (go_at_call 76; refine (rspan_any _ _ _ _ _).mono ?_; rintro e w2 ⟨rfl, hb2⟩)
        go_roundw
        case rel => exact ⟨3 + 1, by omega, by go_num, hS.call hb2, HD.out.trans H0.out, bwS hB (Nat.le_refl _) hb2⟩
        case measure => simp [intOf]
      · have H0 := Lib.hid (firstNZ_stepN (iceE x.b0 x.b1 x.w0 x.w1 x.q0 x.q1 x.s0 x.s1) 4 3 (by omega) hz2)
        have hz3 : (eS x.s0 x.s1 0 5000 != 0) = true := by simpa using hz2
        clear hz2
        go_wp2_with (go_at_call 76; refine (rspan_any _ _ _ _ _).mono ?_; rintro e w2 ⟨rfl, hb2⟩)
        go_ret
        exact ⟨ret_int (HD.out.trans H0.out).symm, bwS hB (Nat.le_refl _) hb2⟩
    · go_wp2
      go_ret
      exact ⟨ret_int HD.out.symm, hB⟩

set_option maxRecDepth 100000 in
set_option maxHeartbeats 8000000 in
theorem rcore_any (x c : Ic) (w : World) :
    Calls Try.prog 42 #[.agg #[.int .i64 x.b0, .int .i64 x.b1, .int .i64 x.w0, .int .i64 x.w1, .int .i64 x.q0, .int .i64 x.q1, .int .i64 x.s0, .int .i64 x.s1], .agg #[.int .i64 c.b0, .int .i64 c.b1, .int .i64 c.w0, .int .i64 c.w1, .int .i64 c.q0, .int .i64 c.q1, .int .i64 c.s0, .int .i64 c.s1]] w fun e w' => e = .returned (.tuple #[coV x c, .int .i64 (coE x c)]) ∧ Below w.heap.size w w' := by
  have HX : Hid (∀ W, Calls Try.prog 24 #[.agg #[.int .i64 x.b0, .int .i64 x.b1, .int .i64 x.w0, .int .i64 x.w1, .int .i64 x.q0, .int .i64 x.q1, .int .i64 x.s0, .int .i64 x.s1]] W fun e w' => e = .returned (.int .i64 x.e) ∧ Below W.heap.size W w') := fun W => rice_any x W
  have HC : Hid (∀ W, Calls Try.prog 24 #[.agg #[.int .i64 c.b0, .int .i64 c.b1, .int .i64 c.w0, .int .i64 c.w1, .int .i64 c.q0, .int .i64 c.q1, .int .i64 c.s0, .int .i64 c.s1]] W fun e w' => e = .returned (.int .i64 c.e) ∧ Below W.heap.size W w') := fun W => rice_any c W
  have jX := (Blk.new w #[.int .i64 x.b0, .int .i64 x.b1, .int .i64 x.w0, .int .i64 x.w1, .int .i64 x.q0, .int .i64 x.q1, .int .i64 x.s0, .int .i64 x.s1] 28).alloc (.cells #[.int .i64 c.b0, .int .i64 c.b1, .int .i64 c.w0, .int .i64 c.w1, .int .i64 c.q0, .int .i64 c.q1, .int .i64 c.s0, .int .i64 c.s1] 28) |>.alloc (.cells #[.int .i64 0, .int .i64 0, .int .i64 0, .int .i64 0, .int .i64 0, .int .i64 0, .int .i64 0, .int .i64 0] 28)
  have jC := (Blk.new1 w (.cells #[.int .i64 x.b0, .int .i64 x.b1, .int .i64 x.w0, .int .i64 x.w1, .int .i64 x.q0, .int .i64 x.q1, .int .i64 x.s0, .int .i64 x.s1] 28) #[.int .i64 c.b0, .int .i64 c.b1, .int .i64 c.w0, .int .i64 c.w1, .int .i64 c.q0, .int .i64 c.q1, .int .i64 c.s0, .int .i64 c.s1] 28).alloc (.cells #[.int .i64 0, .int .i64 0, .int .i64 0, .int .i64 0, .int .i64 0, .int .i64 0, .int .i64 0, .int .i64 0] 28)
  have jR := Blk.new2 w (.cells #[.int .i64 x.b0, .int .i64 x.b1, .int .i64 x.w0, .int .i64 x.w1, .int .i64 x.q0, .int .i64 x.q1, .int .i64 x.s0, .int .i64 x.s1] 28) (.cells #[.int .i64 c.b0, .int .i64 c.b1, .int .i64 c.w0, .int .i64 c.w1, .int .i64 c.q0, .int .i64 c.q1, .int .i64 c.s0, .int .i64 c.s1] 28) #[.int .i64 0, .int .i64 0, .int .i64 0, .int .i64 0, .int .i64 0, .int .i64 0, .int .i64 0, .int .i64 0] 28
  have jB : Below w.heap.size w (((w.alloc (.cells #[.int .i64 x.b0, .int .i64 x.b1, .int .i64 x.w0, .int .i64 x.w1, .int .i64 x.q0, .int .i64 x.q1, .int .i64 x.s0, .int .i64 x.s1] 28)).alloc (.cells #[.int .i64 c.b0, .int .i64 c.b1, .int .i64 c.w0, .int .i64 c.w1, .int .i64 c.q0, .int .i64 c.q1, .int .i64 c.s0, .int .i64 c.s1] 28)).alloc (.cells #[.int .i64 0, .int .i64 0, .int .i64 0, .int .i64 0, .int .i64 0, .int .i64 0, .int .i64 0, .int .i64 0] 28)) := by (repeat (first | exact Below.refl _ _ | assumption | refine Below.drew ?_ | refine Below.drewN ?_ _ | refine blT ?_ | refine blU ?_))
  generalize hE : x.e = E at HX
  generalize hG : c.e = G at HC
  have HE := Lib.hid (And.intro hE hG)
  clear hE hG
  go_enter Try.func42, Try.ntmps42
  go_wp2_with fail
  refine (HX.out _).mono ?_
  rintro e w1 ⟨rfl, hb⟩
  replace jX := jX.call hb
  replace jC := jC.call hb
  replace jR := jR.call hb
  replace jB := bwS jB (Nat.le_refl _) hb
  clear hb HX
  by_cases h0 : E = 0
  case neg =>
    have e1 : orE x.e c.e = E := by rw [HE.out.1]; simp [orE, h0]
    have HP := Lib.hid (co_bad (x := x) (c := c) (by rw [e1]; exact h0))
    rw [e1] at HP
    have h1 : (E != 0) = true := by simpa using h0
    clear e1 h0 jX jC
    obtain ⟨r0, r1, r2, r3, r4, r5, r6, r7⟩ := jR.c8
    have f0 := jR.free 0
    have f1 := jR.free 1
    have f2 := jR.free 2
    have f3 := jR.free 3
    have f4 := jR.free 4
    have f5 := jR.free 5
    have f6 := jR.free 6
    have f7 := jR.free 7
    have zR := jR.lt
    have HQ := Lib.hid (jR.set8 (.int .i64 0) (.int .i64 0) (.int .i64 0) (.int .i64 0) (.int .i64 0) (.int .i64 0) (.int .i64 0) (.int .i64 0)).c8
    go_wp2
    obtain ⟨z0, z1, z2, z3, z4, z5, z6, z7⟩ := HQ.out
    refine bodyPost_ret (v := .tuple #[.agg #[.int .i64 0, .int .i64 0, .int .i64 0, .int .i64 0, .int .i64 0, .int .i64 0, .int .i64 0, .int .i64 0], .int .i64 E]) (by simp [results, Try.results42, go_sem, z0, z1, z2, z3, z4, z5, z6, z7]) rfl ⟨by rw [HP.out.1, HP.out.2], ?_⟩
    iterate 8 refine Below.setCell ?_ (by simp; omega) _
    exact jB
  subst h0
  obtain ⟨a0, a1, a2, a3, a4, a5, a6, a7⟩ := jC.c8
  have zC := jC.lt
  go_wp2_with fail
  refine (HC.out _).mono ?_
  rintro e w2 ⟨rfl, hb⟩
  clear a0 a1 a2 a3 a4 a5 a6 a7 zC
  replace jX := jX.call hb
  replace jC := jC.call hb
  replace jR := jR.call hb
  replace jB := bwS jB (Nat.le_refl _) hb
  clear hb HC
  by_cases h0 : G = 0
  case neg =>
    have e1 : orE x.e c.e = G := by rw [HE.out.1, HE.out.2]; simp [orE]
    have HP := Lib.hid (co_bad (x := x) (c := c) (by rw [e1]; exact h0))
    rw [e1] at HP
    have h1 : (G != 0) = true := by simpa using h0
    clear e1 h0 jX jC
    obtain ⟨r0, r1, r2, r3, r4, r5, r6, r7⟩ := jR.c8
    have f0 := jR.free 0
    have f1 := jR.free 1
    have f2 := jR.free 2
    have f3 := jR.free 3
    have f4 := jR.free 4
    have f5 := jR.free 5
    have f6 := jR.free 6
    have f7 := jR.free 7
    have zR := jR.lt
    have HQ := Lib.hid (jR.set8 (.int .i64 0) (.int .i64 0) (.int .i64 0) (.int .i64 0) (.int .i64 0) (.int .i64 0) (.int .i64 0) (.int .i64 0)).c8
    go_wp2
    obtain ⟨z0, z1, z2, z3, z4, z5, z6, z7⟩ := HQ.out
    refine bodyPost_ret (v := .tuple #[.agg #[.int .i64 0, .int .i64 0, .int .i64 0, .int .i64 0, .int .i64 0, .int .i64 0, .int .i64 0, .int .i64 0], .int .i64 G]) (by simp [results, Try.results42, go_sem, z0, z1, z2, z3, z4, z5, z6, z7]) rfl ⟨by rw [HP.out.1, HP.out.2], ?_⟩
    iterate 8 refine Below.setCell ?_ (by simp; omega) _
    exact jB
  subst h0
  have h00 := Lib.hid (show orE x.e c.e = 0 by rw [HE.out.1, HE.out.2]; rfl)
  clear HE
  go_upto_region 7 with fail
  go_cut [8] (fun s8 wx => ∃ bY : Nat, s8 = .pointer (some ⟨bY, 0, none⟩) ∧ Blk wx bY #[.int .i64 (max x.b0 c.b0), .int .i64 (min x.b1 c.b1), .int .i64 (max x.w0 c.w0), .int .i64 (min x.w1 c.w1), .int .i64 (max x.q0 c.q0), .int .i64 (min x.q1 c.q1), .int .i64 (max x.s0 c.s0), .int .i64 (min x.s1 c.s1)] 28 ∧ Blk wx (w.heap.size + 1 + 1) #[.int .i64 0, .int .i64 0, .int .i64 0, .int .i64 0, .int .i64 0, .int .i64 0, .int .i64 0, .int .i64 0] 28 ∧ w.heap.size + 1 + 1 < bY ∧ Below w.heap.size w wx)
  case first =>
    (
 refine wp_region_held_drew (S := (fun w' => Blk w' w.heap.size #[.int .i64 x.b0, .int .i64 x.b1, .int .i64 x.w0, .int .i64 x.w1, .int .i64 x.q0, .int .i64 x.q1, .int .i64 x.s0, .int .i64 x.s1] 28 ∧ Blk w' (w.heap.size + 1) #[.int .i64 c.b0, .int .i64 c.b1, .int .i64 c.w0, .int .i64 c.w1, .int .i64 c.q0, .int .i64 c.q1, .int .i64 c.s0, .int .i64 c.s1] 28 ∧ Blk w' (w.heap.size + 1 + 1) #[.int .i64 0, .int .i64 0, .int .i64 0, .int .i64 0, .int .i64 0, .int .i64 0, .int .i64 0, .int .i64 0] 28 ∧ Below w.heap.size w w')) (by kernel_rfl) ?_ (fun hH => ?_)
 · (try dsimp only); (exact ⟨jX.drew, jC.drew, jR.drew, jB.drew⟩)
 apply share0 (fun (bA : Nat) (W : World) => (fun w' => Blk w' w.heap.size #[.int .i64 x.b0, .int .i64 x.b1, .int .i64 x.w0, .int .i64 x.w1, .int .i64 x.q0, .int .i64 x.q1, .int .i64 x.s0, .int .i64 x.s1] 28 ∧ Blk w' (w.heap.size + 1) #[.int .i64 c.b0, .int .i64 c.b1, .int .i64 c.w0, .int .i64 c.w1, .int .i64 c.q0, .int .i64 c.q1, .int .i64 c.s0, .int .i64 c.s1] 28 ∧ Blk w' (w.heap.size + 1 + 1) #[.int .i64 0, .int .i64 0, .int .i64 0, .int .i64 0, .int .i64 0, .int .i64 0, .int .i64 0, .int .i64 0] 28 ∧ Below w.heap.size w w') W ∧ Blk W bA #[.int .i64 0, .int .i64 0, .int .i64 0, .int .i64 0, .int .i64 0, .int .i64 0, .int .i64 0, .int .i64 0] 28 ∧ (w.heap.size + 1 + 1 < bA))
 {
 intro X4
 apply share0 (fun (bA : Nat) (W : World) => (fun w' => Blk w' w.heap.size #[.int .i64 x.b0, .int .i64 x.b1, .int .i64 x.w0, .int .i64 x.w1, .int .i64 x.q0, .int .i64 x.q1, .int .i64 x.s0, .int .i64 x.s1] 28 ∧ Blk w' (w.heap.size + 1) #[.int .i64 c.b0, .int .i64 c.b1, .int .i64 c.w0, .int .i64 c.w1, .int .i64 c.q0, .int .i64 c.q1, .int .i64 c.s0, .int .i64 c.s1] 28 ∧ Blk w' (w.heap.size + 1 + 1) #[.int .i64 0, .int .i64 0, .int .i64 0, .int .i64 0, .int .i64 0, .int .i64 0, .int .i64 0, .int .i64 0] 28 ∧ Below w.heap.size w w') W ∧ Blk W bA #[.int .i64 0, .int .i64 0, .int .i64 0, .int .i64 0, .int .i64 0, .int .i64 0, .int .i64 0, .int .i64 0] 28 ∧ (w.heap.size + 1 + 1 < bA))
 {
 intro X3
 apply share0 (fun (bA : Nat) (W : World) => (fun w' => Blk w' w.heap.size #[.int .i64 x.b0, .int .i64 x.b1, .int .i64 x.w0, .int .i64 x.w1, .int .i64 x.q0, .int .i64 x.q1, .int .i64 x.s0, .int .i64 x.s1] 28 ∧ Blk w' (w.heap.size + 1) #[.int .i64 c.b0, .int .i64 c.b1, .int .i64 c.w0, .int .i64 c.w1, .int .i64 c.q0, .int .i64 c.q1, .int .i64 c.s0, .int .i64 c.s1] 28 ∧ Blk w' (w.heap.size + 1 + 1) #[.int .i64 0, .int .i64 0, .int .i64 0, .int .i64 0, .int .i64 0, .int .i64 0, .int .i64 0, .int .i64 0] 28 ∧ Below w.heap.size w w') W ∧ Blk W bA #[.int .i64 0, .int .i64 0, .int .i64 0, .int .i64 0, .int .i64 0, .int .i64 0, .int .i64 0, .int .i64 0] 28 ∧ (w.heap.size + 1 + 1 < bA))
 {
 intro X2
 apply share0 (fun (bA : Nat) (W : World) => (fun w' => Blk w' w.heap.size #[.int .i64 x.b0, .int .i64 x.b1, .int .i64 x.w0, .int .i64 x.w1, .int .i64 x.q0, .int .i64 x.q1, .int .i64 x.s0, .int .i64 x.s1] 28 ∧ Blk w' (w.heap.size + 1) #[.int .i64 c.b0, .int .i64 c.b1, .int .i64 c.w0, .int .i64 c.w1, .int .i64 c.q0, .int .i64 c.q1, .int .i64 c.s0, .int .i64 c.s1] 28 ∧ Blk w' (w.heap.size + 1 + 1) #[.int .i64 0, .int .i64 0, .int .i64 0, .int .i64 0, .int .i64 0, .int .i64 0, .int .i64 0, .int .i64 0] 28 ∧ Below w.heap.size w w') W ∧ Blk W bA #[.int .i64 0, .int .i64 0, .int .i64 0, .int .i64 0, .int .i64 0, .int .i64 0, .int .i64 0, .int .i64 0] 28 ∧ (w.heap.size + 1 + 1 < bA))
 {
 intro X1
 apply share0 (fun (bA : Nat) (W : World) => (fun w' => Blk w' w.heap.size #[.int .i64 x.b0, .int .i64 x.b1, .int .i64 x.w0, .int .i64 x.w1, .int .i64 x.q0, .int .i64 x.q1, .int .i64 x.s0, .int .i64 x.s1] 28 ∧ Blk w' (w.heap.size + 1) #[.int .i64 c.b0, .int .i64 c.b1, .int .i64 c.w0, .int .i64 c.w1, .int .i64 c.q0, .int .i64 c.q1, .int .i64 c.s0, .int .i64 c.s1] 28 ∧ Blk w' (w.heap.size + 1 + 1) #[.int .i64 0, .int .i64 0, .int .i64 0, .int .i64 0, .int .i64 0, .int .i64 0, .int .i64 0, .int .i64 0] 28 ∧ Below w.heap.size w w') W ∧ Blk W bA #[.int .i64 0, .int .i64 0, .int .i64 0, .int .i64 0, .int .i64 0, .int .i64 0, .int .i64 0, .int .i64 0] 28 ∧ (w.heap.size + 1 + 1 < bA))
 {
 intro X0
 refine tkY 0 (some 21) ?_ ?_ ?_
 rotate_left
 · intro w hS0; (try dsimp only at hS0); obtain ⟨kX, kC, _, _⟩ := hS0; obtain ⟨a0, a1, a2, a3, a4, a5, a6, a7⟩ := kX.c8; obtain ⟨b0, b1, b2, b3, b4, b5, b6, b7⟩ := kC.c8;go_simp; (try with_reducible rfl)
 (try simp only [cq])
 refine tkY 1 (some 22) ?_ ?_ ?_
 rotate_left
 · intro w hS0; (try dsimp only at hS0); obtain ⟨kX, kC, _, _⟩ := hS0; obtain ⟨a0, a1, a2, a3, a4, a5, a6, a7⟩ := kX.c8; obtain ⟨b0, b1, b2, b3, b4, b5, b6, b7⟩ := kC.c8;go_simp; (try with_reducible rfl)
 (try simp only [cq])
 refine tkY 2 (some 23) ?_ ?_ ?_
 rotate_left
 · intro w hS0; (try dsimp only at hS0); obtain ⟨kX, kC, _, _⟩ := hS0; obtain ⟨a0, a1, a2, a3, a4, a5, a6, a7⟩ := kX.c8; obtain ⟨b0, b1, b2, b3, b4, b5, b6, b7⟩ := kC.c8;go_simp; (try with_reducible rfl)
 (try simp only [cq])
 refine tkY 3 (some 24) ?_ ?_ ?_
 rotate_left
 · intro w hS0; (try dsimp only at hS0); obtain ⟨kX, kC, _, _⟩ := hS0; obtain ⟨a0, a1, a2, a3, a4, a5, a6, a7⟩ := kX.c8; obtain ⟨b0, b1, b2, b3, b4, b5, b6, b7⟩ := kC.c8;go_simp; (try with_reducible rfl)
 (try simp only [cq])
 refine tkY 5 (some 26) ?_ ?_ ?_
 rotate_left
 · intro w hS0; (try dsimp only at hS0); obtain ⟨kX, kC, _, _⟩ := hS0; obtain ⟨a0, a1, a2, a3, a4, a5, a6, a7⟩ := kX.c8; obtain ⟨b0, b1, b2, b3, b4, b5, b6, b7⟩ := kC.c8;go_simp; (try with_reducible rfl)
 (try simp only [cq])
 refine tkY 6 (some 27) ?_ ?_ ?_
 rotate_left
 · intro w hS0; (try dsimp only at hS0); obtain ⟨kX, kC, _, _⟩ := hS0; obtain ⟨a0, a1, a2, a3, a4, a5, a6, a7⟩ := kX.c8; obtain ⟨b0, b1, b2, b3, b4, b5, b6, b7⟩ := kC.c8;go_simp; (try with_reducible rfl)
 (try simp only [cq])
 refine tkY 7 (some 28) ?_ ?_ ?_
 rotate_left
 · intro w hS0; (try dsimp only at hS0); obtain ⟨kX, kC, _, _⟩ := hS0; obtain ⟨a0, a1, a2, a3, a4, a5, a6, a7⟩ := kX.c8; obtain ⟨b0, b1, b2, b3, b4, b5, b6, b7⟩ := kC.c8;go_simp; (try with_reducible rfl)
 (try simp only [cq])
 refine tkY 8 (some 29) ?_ ?_ ?_
 rotate_left
 · intro w hS0; (try dsimp only at hS0); obtain ⟨kX, kC, _, _⟩ := hS0; obtain ⟨a0, a1, a2, a3, a4, a5, a6, a7⟩ := kX.c8; obtain ⟨b0, b1, b2, b3, b4, b5, b6, b7⟩ := kC.c8;go_simp; (try with_reducible rfl)
 (try simp only [cq])
 refine tkY 10 (some 31) ?_ ?_ ?_
 rotate_left
 · intro w hS0; (try dsimp only at hS0); obtain ⟨kX, kC, _, _⟩ := hS0; obtain ⟨a0, a1, a2, a3, a4, a5, a6, a7⟩ := kX.c8; obtain ⟨b0, b1, b2, b3, b4, b5, b6, b7⟩ := kC.c8;go_simp; (try with_reducible rfl)
 (try simp only [cq])
 refine tkY 11 (some 32) ?_ ?_ ?_
 rotate_left
 · intro w hS0; (try dsimp only at hS0); obtain ⟨kX, kC, _, _⟩ := hS0; obtain ⟨a0, a1, a2, a3, a4, a5, a6, a7⟩ := kX.c8; obtain ⟨b0, b1, b2, b3, b4, b5, b6, b7⟩ := kC.c8;go_simp; (try with_reducible rfl)
 (try simp only [cq])
 refine tkY 12 (some 33) ?_ ?_ ?_
 rotate_left
 · intro w hS0; (try dsimp only at hS0); obtain ⟨kX, kC, _, _⟩ := hS0; obtain ⟨a0, a1, a2, a3, a4, a5, a6, a7⟩ := kX.c8; obtain ⟨b0, b1, b2, b3, b4, b5, b6, b7⟩ := kC.c8;go_simp; (try with_reducible rfl)
 (try simp only [cq])
 refine tkY 13 (some 34) ?_ ?_ ?_
 rotate_left
 · intro w hS0; (try dsimp only at hS0); obtain ⟨kX, kC, _, _⟩ := hS0; obtain ⟨a0, a1, a2, a3, a4, a5, a6, a7⟩ := kX.c8; obtain ⟨b0, b1, b2, b3, b4, b5, b6, b7⟩ := kC.c8;go_simp; (try with_reducible rfl)
 (try simp only [cq])
 refine tkY 15 (some 36) ?_ ?_ ?_
 rotate_left
 · intro w hS0; (try dsimp only at hS0); obtain ⟨kX, kC, _, _⟩ := hS0; obtain ⟨a0, a1, a2, a3, a4, a5, a6, a7⟩ := kX.c8; obtain ⟨b0, b1, b2, b3, b4, b5, b6, b7⟩ := kC.c8;go_simp; (try with_reducible rfl)
 (try simp only [cq])
 refine tkY 16 (some 37) ?_ ?_ ?_
 rotate_left
 · intro w hS0; (try dsimp only at hS0); obtain ⟨kX, kC, _, _⟩ := hS0; obtain ⟨a0, a1, a2, a3, a4, a5, a6, a7⟩ := kX.c8; obtain ⟨b0, b1, b2, b3, b4, b5, b6, b7⟩ := kC.c8;go_simp; (try with_reducible rfl)
 (try simp only [cq])
 refine tkY 17 (some 38) ?_ ?_ ?_
 rotate_left
 · intro w hS0; (try dsimp only at hS0); obtain ⟨kX, kC, _, _⟩ := hS0; obtain ⟨a0, a1, a2, a3, a4, a5, a6, a7⟩ := kX.c8; obtain ⟨b0, b1, b2, b3, b4, b5, b6, b7⟩ := kC.c8;go_simp; (try with_reducible rfl)
 (try simp only [cq])
 refine tkY 18 (some 39) ?_ ?_ ?_
 rotate_left
 · intro w hS0; (try dsimp only at hS0); obtain ⟨kX, kC, _, _⟩ := hS0; obtain ⟨a0, a1, a2, a3, a4, a5, a6, a7⟩ := kX.c8; obtain ⟨b0, b1, b2, b3, b4, b5, b6, b7⟩ := kC.c8;go_simp; (try with_reducible rfl)
 (try simp only [cq])
 refine wpAnyH_ready (rs := [4, 21]) (by kernel_rfl) (by simp) ?_
 refine arc (some 25) (fun K hK => ?_) ?_
 {
 go_simp
 (refine (common_any _ _ _ _ _).mono ?_; rintro e w' ⟨rfl, hb⟩; (try replace hA := hA.call hb))
 refine hK.out _ _ ?_ ?_
 · (exact ⟨hH.1.call hb, hH.2.1.call hb, hH.2.2.1.call hb, bwS hH.2.2.2 (Nat.le_refl _) hb⟩)
 (try clear hH); (try clear hb)
 intro hH
 clear hK K
 (try simp only [cq])
 refine wpAnyH_ready (rs := [9, 21]) (by kernel_rfl) (by simp) ?_
 refine arc (some 30) (fun K hK => ?_) ?_
 {
 go_simp
 (refine (common_any _ _ _ _ _).mono ?_; rintro e w' ⟨rfl, hb⟩; (try replace hA := hA.call hb))
 refine hK.out _ _ ?_ ?_
 · (exact ⟨hH.1.call hb, hH.2.1.call hb, hH.2.2.1.call hb, bwS hH.2.2.2 (Nat.le_refl _) hb⟩)
 (try clear hH); (try clear hb)
 intro hH
 clear hK K
 (try simp only [cq])
 refine wpAnyH_ready (rs := [14, 21]) (by kernel_rfl) (by simp) ?_
 refine arc (some 35) (fun K hK => ?_) ?_
 {
 go_simp
 (refine (common_any _ _ _ _ _).mono ?_; rintro e w' ⟨rfl, hb⟩; (try replace hA := hA.call hb))
 refine hK.out _ _ ?_ ?_
 · (exact ⟨hH.1.call hb, hH.2.1.call hb, hH.2.2.1.call hb, bwS hH.2.2.2 (Nat.le_refl _) hb⟩)
 (try clear hH); (try clear hb)
 intro hH
 clear hK K
 (try simp only [cq])
 refine wpAnyH_ready (rs := [19, 21]) (by kernel_rfl) (by simp) ?_
 refine arc (some 40) (fun K hK => ?_) ?_
 {
 go_simp
 (refine (common_any _ _ _ _ _).mono ?_; rintro e w' ⟨rfl, hb⟩; (try replace hA := hA.call hb))
 refine hK.out _ _ ?_ ?_
 · (exact ⟨hH.1.call hb, hH.2.1.call hb, hH.2.2.1.call hb, bwS hH.2.2.2 (Nat.le_refl _) hb⟩)
 (try clear hH); (try clear hb)
 intro hH
 clear hK K
 (try simp only [cq])
 refine tkY 20 (some 41) ?_ ?_ ?_
 rotate_left
 · intro w _; go_simp; (try with_reducible rfl)
 (try simp only [cq])
 refine wpAnyH_ready (rs := [21]) (by kernel_rfl) (by simp) ?_
 refine arc1 (some 8) fun K hK => ?_
 (have hN1 := hH.2.2.1.lt)
 go_simp
 first | refine oA hK ?_ (fun hH hA => ?_) | refine oD hK ?_ (fun hH hA => ?_)
 · exact ⟨hH.1.alloc _, hH.2.1.alloc _, hH.2.2.1.alloc _, bwA hH.2.2.2 (Nat.le_refl _) _⟩
 clear hK K
 (try simp only [cq])
 obtain ⟨bA, hbA⟩ : ∃ b, Blk.num hA = b := ⟨_, rfl⟩
 obtain ⟨W, hW⟩ : ∃ V, Blk.wld hA = V := ⟨_, rfl⟩
 simp only [Blk.num] at hbA
 simp only [Blk.wld] at hW
 rw [hW] at hH hA ⊢
 rw [hbA] at hA ⊢
 replace hN1 : w.heap.size + 1 + 1 < bA := (by rw [← hbA]; exact hN1)
 clear hW hbA
 exact X4  bA W ⟨hH, hA, hN1⟩
 }
 refine arc (some 8) (fun K hK => ?_) ?_
 {
 (have hN1 := hH.2.2.1.lt)
 go_simp
 first | refine oA hK ?_ (fun hH hA => ?_) | refine oD hK ?_ (fun hH hA => ?_)
 · exact ⟨hH.1.alloc _, hH.2.1.alloc _, hH.2.2.1.alloc _, bwA hH.2.2.2 (Nat.le_refl _) _⟩
 clear hK K
 (try simp only [cq])
 obtain ⟨bA, hbA⟩ : ∃ b, Blk.num hA = b := ⟨_, rfl⟩
 obtain ⟨W, hW⟩ : ∃ V, Blk.wld hA = V := ⟨_, rfl⟩
 simp only [Blk.num] at hbA
 simp only [Blk.wld] at hW
 rw [hW] at hH hA ⊢
 rw [hbA] at hA ⊢
 replace hN1 : w.heap.size + 1 + 1 < bA := (by rw [← hbA]; exact hN1)
 clear hW hbA
 exact X3  bA W ⟨hH, hA, hN1⟩
 }
 exact AllReadyH.nil
 }
 refine arc (some 8) (fun K hK => ?_) ?_
 {
 (have hN1 := hH.2.2.1.lt)
 go_simp
 first | refine oA hK ?_ (fun hH hA => ?_) | refine oD hK ?_ (fun hH hA => ?_)
 · exact ⟨hH.1.alloc _, hH.2.1.alloc _, hH.2.2.1.alloc _, bwA hH.2.2.2 (Nat.le_refl _) _⟩
 clear hK K
 (try simp only [cq])
 obtain ⟨bA, hbA⟩ : ∃ b, Blk.num hA = b := ⟨_, rfl⟩
 obtain ⟨W, hW⟩ : ∃ V, Blk.wld hA = V := ⟨_, rfl⟩
 simp only [Blk.num] at hbA
 simp only [Blk.wld] at hW
 rw [hW] at hH hA ⊢
 rw [hbA] at hA ⊢
 replace hN1 : w.heap.size + 1 + 1 < bA := (by rw [← hbA]; exact hN1)
 clear hW hbA
 exact X2  bA W ⟨hH, hA, hN1⟩
 }
 exact AllReadyH.nil
 }
 refine arc (some 8) (fun K hK => ?_) ?_
 {
 (have hN1 := hH.2.2.1.lt)
 go_simp
 first | refine oA hK ?_ (fun hH hA => ?_) | refine oD hK ?_ (fun hH hA => ?_)
 · exact ⟨hH.1.alloc _, hH.2.1.alloc _, hH.2.2.1.alloc _, bwA hH.2.2.2 (Nat.le_refl _) _⟩
 clear hK K
 (try simp only [cq])
 obtain ⟨bA, hbA⟩ : ∃ b, Blk.num hA = b := ⟨_, rfl⟩
 obtain ⟨W, hW⟩ : ∃ V, Blk.wld hA = V := ⟨_, rfl⟩
 simp only [Blk.num] at hbA
 simp only [Blk.wld] at hW
 rw [hW] at hH hA ⊢
 rw [hbA] at hA ⊢
 replace hN1 : w.heap.size + 1 + 1 < bA := (by rw [← hbA]; exact hN1)
 clear hW hbA
 exact X1  bA W ⟨hH, hA, hN1⟩
 }
 exact AllReadyH.nil
 }
 refine arc (some 8) (fun K hK => ?_) ?_
 {
 (have hN1 := hH.2.2.1.lt)
 go_simp
 first | refine oA hK ?_ (fun hH hA => ?_) | refine oD hK ?_ (fun hH hA => ?_)
 · exact ⟨hH.1.alloc _, hH.2.1.alloc _, hH.2.2.1.alloc _, bwA hH.2.2.2 (Nat.le_refl _) _⟩
 clear hK K
 (try simp only [cq])
 obtain ⟨bA, hbA⟩ : ∃ b, Blk.num hA = b := ⟨_, rfl⟩
 obtain ⟨W, hW⟩ : ∃ V, Blk.wld hA = V := ⟨_, rfl⟩
 simp only [Blk.num] at hbA
 simp only [Blk.wld] at hW
 rw [hW] at hH hA ⊢
 rw [hbA] at hA ⊢
 replace hN1 : w.heap.size + 1 + 1 < bA := (by rw [← hbA]; exact hN1)
 clear hW hbA
 exact X0  bA W ⟨hH, hA, hN1⟩
 }
 exact AllReadyH.nil
 }
 {
 intro bA W hall
 obtain ⟨hH, hA, hN1⟩ := hall
 (try dsimp only at hH)
 (try clear X2 X3 X4)
 refine wpAnyH_ready (rs := [4]) (by kernel_rfl) (by simp) ?_
 refine arc1 (some 25) fun K hK => ?_
 go_simp
 (refine (common_any _ _ _ _ _).mono ?_; rintro e w' ⟨rfl, hb⟩; (try replace hA := hA.call hb))
 refine hK.out _ _ ?_ ?_
 · (exact ⟨hH.1.call hb, hH.2.1.call hb, hH.2.2.1.call hb, bwS hH.2.2.2 (Nat.le_refl _) hb⟩)
 (try clear hH); (try clear hb)
 intro hH
 clear hK K
 (try simp only [cq])
 exact X1  bA w' ⟨hH, hA, hN1⟩
 }
 }
 {
 intro bA W hall
 obtain ⟨hH, hA, hN1⟩ := hall
 (try dsimp only at hH)
 (try clear X3 X4)
 refine wpAnyH_ready (rs := [9]) (by kernel_rfl) (by simp) ?_
 refine arc1 (some 30) fun K hK => ?_
 go_simp
 (refine (common_any _ _ _ _ _).mono ?_; rintro e w' ⟨rfl, hb⟩; (try replace hA := hA.call hb))
 refine hK.out _ _ ?_ ?_
 · (exact ⟨hH.1.call hb, hH.2.1.call hb, hH.2.2.1.call hb, bwS hH.2.2.2 (Nat.le_refl _) hb⟩)
 (try clear hH); (try clear hb)
 intro hH
 clear hK K
 (try simp only [cq])
 exact X2  bA w' ⟨hH, hA, hN1⟩
 }
 }
 {
 intro bA W hall
 obtain ⟨hH, hA, hN1⟩ := hall
 (try dsimp only at hH)
 (try clear X4)
 refine wpAnyH_ready (rs := [14]) (by kernel_rfl) (by simp) ?_
 refine arc1 (some 35) fun K hK => ?_
 go_simp
 (refine (common_any _ _ _ _ _).mono ?_; rintro e w' ⟨rfl, hb⟩; (try replace hA := hA.call hb))
 refine hK.out _ _ ?_ ?_
 · (exact ⟨hH.1.call hb, hH.2.1.call hb, hH.2.2.1.call hb, bwS hH.2.2.2 (Nat.le_refl _) hb⟩)
 (try clear hH); (try clear hb)
 intro hH
 clear hK K
 (try simp only [cq])
 exact X3  bA w' ⟨hH, hA, hN1⟩
 }
 }
 {
 intro bA W hall
 obtain ⟨hH, hA, hN1⟩ := hall
 (try dsimp only at hH)
 refine wpAnyH_ready (rs := [19]) (by kernel_rfl) (by simp) ?_
 refine arc1 (some 40) fun K hK => ?_
 go_simp
 (refine (common_any _ _ _ _ _).mono ?_; rintro e w' ⟨rfl, hb⟩; (try replace hA := hA.call hb))
 refine hK.out _ _ ?_ ?_
 · (exact ⟨hH.1.call hb, hH.2.1.call hb, hH.2.2.1.call hb, bwS hH.2.2.2 (Nat.le_refl _) hb⟩)
 (try clear hH); (try clear hb)
 intro hH
 clear hK K
 (try simp only [cq])
 refine tkY 20 (some 41) ?_ ?_ ?_
 rotate_left
 · intro w _; go_simp; (try with_reducible rfl)
 (try simp only [cq])
 exact X4  bA w' ⟨hH, hA, hN1⟩
 }
 }
 {
 intro bA W hall
 obtain ⟨hH, hA, hN1⟩ := hall
 (try dsimp only at hH)
 refine wpAnyH_ready (rs := [22]) (by kernel_rfl) (by simp) ?_
 refine arc1 none fun K hK => ?_
 obtain ⟨hX, hC, hR, hB⟩ := hH
 obtain ⟨r0, r1, r2, r3, r4, r5, r6, r7⟩ := hA.c8
 have fr0 := hA.free 0
 have fr1 := hA.free 1
 have fr2 := hA.free 2
 have fr3 := hA.free 3
 have fr4 := hA.free 4
 have fr5 := hA.free 5
 have fr6 := hA.free 6
 have fr7 := hA.free 7
 have zR := hA.lt
 have HS := Lib.hid (hA.set8 (.int .i64 (max x.b0 c.b0)) (.int .i64 (min x.b1 c.b1)) (.int .i64 (max x.w0 c.w0)) (.int .i64 (min x.w1 c.w1)) (.int .i64 (max x.q0 c.q0)) (.int .i64 (min x.q1 c.q1)) (.int .i64 (max x.s0 c.s0)) (.int .i64 (min x.s1 c.s1)))
 go_simp
 refine hK.out _ _ ?_ ?_
 · refine ⟨hX.other8 (by omega) _ _ _ _ _ _ _ _, hC.other8 (by omega) _ _ _ _ _ _ _ _, hR.other8 (by omega) _ _ _ _ _ _ _ _, ?_⟩; (iterate 8 refine Below.setCell ?_ (by simp; omega) _); exact hB
 (try clear hH); (try clear hb)
 intro hH
 clear hK K
 (try simp only [cq])
 refine wpAnyH_done (by kernel_rfl) ?_ _
 (try dsimp only [Act.put])
 (try simp only [cq])
 clear hA r0 r1 r2 r3 r4 r5 r6 r7 fr0 fr1 fr2 fr3 fr4 fr5 fr6 fr7 zR hX hC hR hB
 go_wp2_with fail
 go_meet
 exact ⟨_, rfl, HS.out, hH.2.2.1, hN1, hH.2.2.2⟩
 } )
  case rest =>
    obtain ⟨bY, rfl, hY, hR, hN, hB⟩ := hcut
    clear jX jC jR jB
    obtain ⟨a0, a1, a2, a3, a4, a5, a6, a7⟩ := hY.c8
    have zY := hY.lt
    by_cases c0 : min x.b1 c.b1 < max x.b0 c.b0
    · have HP := Lib.hid (co_clash h00.out (.inl c0))
      obtain ⟨r0, r1, r2, r3, r4, r5, r6, r7⟩ := hR.c8
      have f0 := hR.free 0
      have f1 := hR.free 1
      have f2 := hR.free 2
      have f3 := hR.free 3
      have f4 := hR.free 4
      have f5 := hR.free 5
      have f6 := hR.free 6
      have f7 := hR.free 7
      have zR := hR.lt
      have HQ := Lib.hid (hR.set8 (.int .i64 0) (.int .i64 0) (.int .i64 0) (.int .i64 0) (.int .i64 0) (.int .i64 0) (.int .i64 0) (.int .i64 0)).c8
      go_wp2
      obtain ⟨z0, z1, z2, z3, z4, z5, z6, z7⟩ := HQ.out
      refine bodyPost_ret (v := .tuple #[.agg #[.int .i64 0, .int .i64 0, .int .i64 0, .int .i64 0, .int .i64 0, .int .i64 0, .int .i64 0, .int .i64 0], .int .i64 12]) (by simp [results, Try.results42, go_sem, z0, z1, z2, z3, z4, z5, z6, z7]) rfl ⟨by rw [HP.out.1, HP.out.2], ?_⟩
      iterate 8 refine Below.setCell ?_ (by simp; omega) _
      exact hB
    by_cases c1 : min x.w1 c.w1 < max x.w0 c.w0
    · have HP := Lib.hid (co_clash h00.out (.inr (.inl c1)))
      obtain ⟨r0, r1, r2, r3, r4, r5, r6, r7⟩ := hR.c8
      have f0 := hR.free 0
      have f1 := hR.free 1
      have f2 := hR.free 2
      have f3 := hR.free 3
      have f4 := hR.free 4
      have f5 := hR.free 5
      have f6 := hR.free 6
      have f7 := hR.free 7
      have zR := hR.lt
      have HQ := Lib.hid (hR.set8 (.int .i64 0) (.int .i64 0) (.int .i64 0) (.int .i64 0) (.int .i64 0) (.int .i64 0) (.int .i64 0) (.int .i64 0)).c8
      go_wp2
      obtain ⟨z0, z1, z2, z3, z4, z5, z6, z7⟩ := HQ.out
      refine bodyPost_ret (v := .tuple #[.agg #[.int .i64 0, .int .i64 0, .int .i64 0, .int .i64 0, .int .i64 0, .int .i64 0, .int .i64 0, .int .i64 0], .int .i64 12]) (by simp [results, Try.results42, go_sem, z0, z1, z2, z3, z4, z5, z6, z7]) rfl ⟨by rw [HP.out.1, HP.out.2], ?_⟩
      iterate 8 refine Below.setCell ?_ (by simp; omega) _
      exact hB
    by_cases c2 : min x.q1 c.q1 < max x.q0 c.q0
    · have HP := Lib.hid (co_clash h00.out (.inr (.inr (.inl c2))))
      obtain ⟨r0, r1, r2, r3, r4, r5, r6, r7⟩ := hR.c8
      have f0 := hR.free 0
      have f1 := hR.free 1
      have f2 := hR.free 2
      have f3 := hR.free 3
      have f4 := hR.free 4
      have f5 := hR.free 5
      have f6 := hR.free 6
      have f7 := hR.free 7
      have zR := hR.lt
      have HQ := Lib.hid (hR.set8 (.int .i64 0) (.int .i64 0) (.int .i64 0) (.int .i64 0) (.int .i64 0) (.int .i64 0) (.int .i64 0) (.int .i64 0)).c8
      go_wp2
      obtain ⟨z0, z1, z2, z3, z4, z5, z6, z7⟩ := HQ.out
      refine bodyPost_ret (v := .tuple #[.agg #[.int .i64 0, .int .i64 0, .int .i64 0, .int .i64 0, .int .i64 0, .int .i64 0, .int .i64 0, .int .i64 0], .int .i64 12]) (by simp [results, Try.results42, go_sem, z0, z1, z2, z3, z4, z5, z6, z7]) rfl ⟨by rw [HP.out.1, HP.out.2], ?_⟩
      iterate 8 refine Below.setCell ?_ (by simp; omega) _
      exact hB
    by_cases c3 : min x.s1 c.s1 < max x.s0 c.s0
    · have HP := Lib.hid (co_clash h00.out (.inr (.inr (.inr (c3)))))
      obtain ⟨r0, r1, r2, r3, r4, r5, r6, r7⟩ := hR.c8
      have f0 := hR.free 0
      have f1 := hR.free 1
      have f2 := hR.free 2
      have f3 := hR.free 3
      have f4 := hR.free 4
      have f5 := hR.free 5
      have f6 := hR.free 6
      have f7 := hR.free 7
      have zR := hR.lt
      have HQ := Lib.hid (hR.set8 (.int .i64 0) (.int .i64 0) (.int .i64 0) (.int .i64 0) (.int .i64 0) (.int .i64 0) (.int .i64 0) (.int .i64 0)).c8
      go_wp2
      obtain ⟨z0, z1, z2, z3, z4, z5, z6, z7⟩ := HQ.out
      refine bodyPost_ret (v := .tuple #[.agg #[.int .i64 0, .int .i64 0, .int .i64 0, .int .i64 0, .int .i64 0, .int .i64 0, .int .i64 0, .int .i64 0], .int .i64 12]) (by simp [results, Try.results42, go_sem, z0, z1, z2, z3, z4, z5, z6, z7]) rfl ⟨by rw [HP.out.1, HP.out.2], ?_⟩
      iterate 8 refine Below.setCell ?_ (by simp; omega) _
      exact hB
    have HP := Lib.hid (co_ok h00.out (fun h => h.elim c0 (fun h => h.elim c1 (fun h => h.elim c2 c3))))
    obtain ⟨r0, r1, r2, r3, r4, r5, r6, r7⟩ := hR.c8
    have f0 := hR.free 0
    have f1 := hR.free 1
    have f2 := hR.free 2
    have f3 := hR.free 3
    have f4 := hR.free 4
    have f5 := hR.free 5
    have f6 := hR.free 6
    have f7 := hR.free 7
    have zR := hR.lt
    have HQ := Lib.hid (hR.set8 (.int .i64 (max x.b0 c.b0)) (.int .i64 (min x.b1 c.b1)) (.int .i64 (max x.w0 c.w0)) (.int .i64 (min x.w1 c.w1)) (.int .i64 (max x.q0 c.q0)) (.int .i64 (min x.q1 c.q1)) (.int .i64 (max x.s0 c.s0)) (.int .i64 (min x.s1 c.s1))).c8
    go_wp2
    obtain ⟨z0, z1, z2, z3, z4, z5, z6, z7⟩ := HQ.out
    refine bodyPost_ret (v := .tuple #[.agg #[.int .i64 (max x.b0 c.b0), .int .i64 (min x.b1 c.b1), .int .i64 (max x.w0 c.w0), .int .i64 (min x.w1 c.w1), .int .i64 (max x.q0 c.q0), .int .i64 (min x.q1 c.q1), .int .i64 (max x.s0 c.s0), .int .i64 (min x.s1 c.s1)], .int .i64 0]) (by simp [results, Try.results42, go_sem, z0, z1, z2, z3, z4, z5, z6, z7]) rfl ⟨by rw [HP.out.1, HP.out.2], ?_⟩
    iterate 8 refine Below.setCell ?_ (by simp; omega) _
    exact hB
end Go.Proofs.Ytoobgjigfmnnaaa

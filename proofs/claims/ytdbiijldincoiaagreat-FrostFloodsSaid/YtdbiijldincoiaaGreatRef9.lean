/-
  The reference's Check, checkAll and Step: the program's values.
-/
import Derived.Test.YtdbiijldincoiaaGreatTail
import Derived.Test.YtdbiijldincoiaaGreatRef8
import Derived.Test.YtdbiijldincoiaaGreatRef6
set_option linter.unusedVariables false
set_option linter.unusedSimpArgs false
namespace Go.Proofs.YtdbiijldincoiaaGreat
open Go.RowKit

theorem rcovers_any (v : Value) (n : Nat) (D P0 P1 : Nat → Int) (w : World) (h : CovAt w v n D P0 P1) :
    Calls Tryz.prog 82 #[v] w fun e w' => e = .returned (.int .i64 (eCs n D P0 P1)) ∧ Below w.heap.size w w' := by
  obtain ⟨a, cap, rfl, h1, h2, h3⟩ := h
  unfold eCs
  by_cases h0 : n = 0
  · subst h0
    rw [if_pos rfl]
    go_enter Tryz.func82, Tryz.ntmps82
    go_wp2_with fail
    go_ret
    exact ⟨rfl, Below.refl _ _⟩
  rw [if_neg h0]
  by_cases h12 : 12 < n
  · rw [if_pos h12]
    have hn4 : decide ((12 : Int) < (n : Int)) = true := by simp; omega
    have hn0 : ((n : Int) == 0) = false := by simp; omega
    clear h0 h12 h3
    go_enter Tryz.func82, Tryz.ntmps82
    go_wp2_with fail
    go_ret
    exact ⟨rfl, Below.refl _ _⟩
  rw [if_neg h12]
  obtain ⟨b, o, rfl, hc⟩ := h3 (by omega)
  exact rcovers_some b o n cap D P0 P1 w (by omega) (by omega) hc

set_option maxRecDepth 100000 in
set_option maxHeartbeats 8000000 in
theorem rlaw_any (gr la : Int) (v : Value) (n : Nat) (D P0 P1 : Nat → Int) (m0 m1 so h0 h1 : Int) (w : World) (hv : CovAt w v n D P0 P1) :
    Calls Tryz.prog 62 #[.agg #[.int .i64 gr, .int .i64 la, v, .int .i64 m0, .int .i64 m1, .int .i64 so, .int .i64 h0, .int .i64 h1]] w fun e w' => e = .returned (.int .i64 (eLaw gr la n D P0 P1 m0 m1 so h0 h1)) ∧ Below w.heap.size w w' := by
  have HC := Lib.hid (show ∀ W, Below w.heap.size w W → Calls Tryz.prog 82 #[v] W fun e w' => e = .returned (.int .i64 (eCs n D P0 P1)) ∧ Below W.heap.size W w' from fun W h => rcovers_any v n D P0 P1 W (hv.later h))
  have HE := Lib.hid (show eLaw gr la n D P0 P1 m0 m1 so h0 h1 = orE (eN gr 0 10000) (orE (eN la 1 1000) (orE (eCs n D P0 P1) (orE (eS m0 m1 0 10000000) (orE (eN so 0 1000000) (eS h0 h1 0 1000000))))) from rfl)
  obtain ⟨va, vcap, rfl, _, _, _⟩ := hv
  generalize eLaw gr la n D P0 P1 m0 m1 so h0 h1 = E at HE ⊢
  generalize eCs n D P0 P1 = C at HE HC
  have jL := Blk.new w #[.int .i64 gr, .int .i64 la, .slice va n vcap, .int .i64 m0, .int .i64 m1, .int .i64 so, .int .i64 h0, .int .i64 h1] 26
  have jB : Below w.heap.size w (w.alloc (.cells #[.int .i64 gr, .int .i64 la, .slice va n vcap, .int .i64 m0, .int .i64 m1, .int .i64 so, .int .i64 h0, .int .i64 h1] 26)) := by (repeat (first | exact Below.refl _ _ | assumption | refine Below.drew ?_ | refine Below.drewN ?_ _ | refine blT ?_ | refine blU ?_))
  go_enter Tryz.func62, Tryz.ntmps62
  go_wp2_with fail
  refine (rout_any _ _ _ _).mono ?_
  rintro e w' ⟨rfl, rfl⟩
  cases o1 : outB gr 0 10000 with
  | true =>
    have e1 := Lib.hid (HE.out.trans ((orE_left (by rw [eN_out o1]; decide)).trans (eN_out o1)))
    clear o1
    go_wp2
    go_ret
    exact ⟨ret_int e1.out.symm, jB⟩
  | false =>
  have HE1 := Lib.hid (HE.out.trans (orE_right (eN_in o1)))
  clear o1 HE
  go_wp2_with fail
  refine (rout_any _ _ _ _).mono ?_
  rintro e w' ⟨rfl, rfl⟩
  cases o1 : outB la 1 1000 with
  | true =>
    have e1 := Lib.hid (HE1.out.trans ((orE_left (by rw [eN_out o1]; decide)).trans (eN_out o1)))
    clear o1
    go_wp2
    go_ret
    exact ⟨ret_int e1.out.symm, jB⟩
  | false =>
  have HE2 := Lib.hid (HE1.out.trans (orE_right (eN_in o1)))
  clear o1 HE1
  go_wp2_with fail
  refine (HC.out _ jB).mono ?_
  rintro e w2 ⟨rfl, hb⟩
  replace jL := jL.call hb
  replace jB := bwS jB (Nat.le_refl _) hb
  clear hb HC
  by_cases z1 : C = 0
  case neg =>
    have e1 := Lib.hid (HE2.out.trans (orE_left z1))
    have z2 : (C != 0) = true := by simpa using z1
    clear z1
    go_wp2
    go_ret
    exact ⟨ret_int e1.out.symm, jB⟩
  have z2 : (C != 0) = false := by simpa using z1
  have HE3 := Lib.hid (HE2.out.trans (orE_right z1))
  clear z1 HE2
  obtain ⟨l0, l1, l2, l3, l4, l5, l6, l7⟩ := jL.c8
  have zL := jL.lt
  go_wp2_with fail
  refine (rspan_any _ _ _ _ _).mono ?_
  rintro e w3 ⟨rfl, hb⟩
  clear l0 l1 l2 l3 l4 l5 l6 l7 zL z2
  replace jL := jL.call hb
  replace jB := bwS jB (Nat.le_refl _) hb
  clear hb
  by_cases z1 : eS m0 m1 0 10000000 = 0
  case neg =>
    have e1 := Lib.hid (HE3.out.trans (orE_left z1))
    have z2 : (eS m0 m1 0 10000000 != 0) = true := by simpa using z1
    clear z1
    go_wp2
    go_ret
    exact ⟨ret_int e1.out.symm, jB⟩
  have z2 : (eS m0 m1 0 10000000 != 0) = false := by simpa using z1
  have HE4 := Lib.hid (HE3.out.trans (orE_right z1))
  clear z1 HE3
  obtain ⟨l0, l1, l2, l3, l4, l5, l6, l7⟩ := jL.c8
  have zL := jL.lt
  go_wp2_with fail
  refine (rout_any _ _ _ _).mono ?_
  rintro e w' ⟨rfl, rfl⟩
  cases o1 : outB so 0 1000000 with
  | true =>
    have e1 := Lib.hid (HE4.out.trans ((orE_left (by rw [eN_out o1]; decide)).trans (eN_out o1)))
    clear o1
    go_wp2
    go_ret
    exact ⟨ret_int e1.out.symm, jB⟩
  | false =>
  have HE5 := Lib.hid (HE4.out.trans (orE_right (eN_in o1)))
  clear o1 HE4
  go_wp2_with fail
  refine (rspan_any _ _ _ _ _).mono ?_
  rintro e w5 ⟨rfl, hb⟩
  clear l0 l1 l2 l3 l4 l5 l6 l7 zL z2
  replace jB := bwS jB (Nat.le_refl _) hb
  go_wp2
  go_ret
  exact ⟨ret_int HE5.out.symm, jB⟩

def eAll (gr la : Int) (n : Nat) (D P0 P1 : Nat → Int) (m0 m1 so h0 h1 : Int) (x : Ic) (nd : Nat) (d : Nat → Dy) : Int := orE (eLaw gr la n D P0 P1 m0 m1 so h0 h1) (orE x.e (eDs nd d))

set_option maxRecDepth 100000 in
set_option maxHeartbeats 8000000 in
theorem rall_any (gr la : Int) (v : Value) (n : Nat) (D P0 P1 : Nat → Int) (m0 m1 so h0 h1 : Int) (x : Ic) (vd : Value) (nd : Nat) (d : Nat → Dy) (w : World) (hv : CovAt w v n D P0 P1) (hd : DaysAt w vd nd d) :
    Calls Tryz.prog 38 #[.agg #[.int .i64 gr, .int .i64 la, v, .int .i64 m0, .int .i64 m1, .int .i64 so, .int .i64 h0, .int .i64 h1], .agg #[.int .i64 x.b0, .int .i64 x.b1, .int .i64 x.w0, .int .i64 x.w1, .int .i64 x.q0, .int .i64 x.q1, .int .i64 x.s0, .int .i64 x.s1], vd] w fun e w' => e = .returned (.int .i64 (eAll gr la n D P0 P1 m0 m1 so h0 h1 x nd d)) ∧ Below w.heap.size w w' := by
  have HL := Lib.hid (show ∀ W, Below w.heap.size w W → Calls Tryz.prog 62 #[.agg #[.int .i64 gr, .int .i64 la, v, .int .i64 m0, .int .i64 m1, .int .i64 so, .int .i64 h0, .int .i64 h1]] W fun e w' => e = .returned (.int .i64 (eLaw gr la n D P0 P1 m0 m1 so h0 h1)) ∧ Below W.heap.size W w' from fun W h => rlaw_any gr la v n D P0 P1 m0 m1 so h0 h1 W (hv.later h))
  have HD := Lib.hid (show ∀ W, Below w.heap.size w W → Calls Tryz.prog 41 #[vd] W fun e w' => e = .returned (.int .i64 (eDs nd d)) ∧ Below W.heap.size W w' from fun W h => rdays_any vd nd d W (hd.later h))
  have HE := Lib.hid (show eAll gr la n D P0 P1 m0 m1 so h0 h1 x nd d = orE (eLaw gr la n D P0 P1 m0 m1 so h0 h1) (orE x.e (eDs nd d)) from rfl)
  have HI := Lib.hid (show ∀ W, Calls Tryz.prog 63 #[.agg #[.int .i64 x.b0, .int .i64 x.b1, .int .i64 x.w0, .int .i64 x.w1, .int .i64 x.q0, .int .i64 x.q1, .int .i64 x.s0, .int .i64 x.s1]] W fun e w' => e = .returned (.int .i64 x.e) ∧ Below W.heap.size W w' from fun W => rice_any x W)
  generalize eAll gr la n D P0 P1 m0 m1 so h0 h1 x nd d = E at HE ⊢
  generalize eLaw gr la n D P0 P1 m0 m1 so h0 h1 = A at HE HL
  generalize eDs nd d = C at HE HD
  generalize x.e = B at HE HI
  obtain ⟨va, vcap, rfl, _, _, _⟩ := hv
  obtain ⟨da, dcap, rfl, _, _, _⟩ := hd
  have jX := Blk.new1 w (.cells #[.int .i64 gr, .int .i64 la, .slice va n vcap, .int .i64 m0, .int .i64 m1, .int .i64 so, .int .i64 h0, .int .i64 h1] 26) #[.int .i64 x.b0, .int .i64 x.b1, .int .i64 x.w0, .int .i64 x.w1, .int .i64 x.q0, .int .i64 x.q1, .int .i64 x.s0, .int .i64 x.s1] 28
  have jB : Below w.heap.size w ((w.alloc (.cells #[.int .i64 gr, .int .i64 la, .slice va n vcap, .int .i64 m0, .int .i64 m1, .int .i64 so, .int .i64 h0, .int .i64 h1] 26)).alloc (.cells #[.int .i64 x.b0, .int .i64 x.b1, .int .i64 x.w0, .int .i64 x.w1, .int .i64 x.q0, .int .i64 x.q1, .int .i64 x.s0, .int .i64 x.s1] 28)) := by (repeat (first | exact Below.refl _ _ | assumption | refine Below.drew ?_ | refine Below.drewN ?_ _ | refine blT ?_ | refine blU ?_))
  go_enter Tryz.func38, Tryz.ntmps38
  go_wp2_with fail
  refine (HL.out _ jB).mono ?_
  rintro e w2 ⟨rfl, hb⟩
  replace jX := jX.call hb
  replace jB := bwS jB (Nat.le_refl _) hb
  clear hb
  by_cases z1 : A = 0
  case neg =>
    have e1 := Lib.hid (HE.out.trans (orE_left z1))
    have z2 : (A != 0) = true := by simpa using z1
    clear z1
    go_wp2
    go_ret
    exact ⟨ret_int e1.out.symm, jB⟩
  have z2 : (A != 0) = false := by simpa using z1
  have HE1 := Lib.hid (HE.out.trans (orE_right z1))
  clear z1 HE
  obtain ⟨x0, x1, x2, x3, x4, x5, x6, x7⟩ := jX.c8
  have zX := jX.lt
  go_wp2_with fail
  refine (HI.out _).mono ?_
  rintro e w3 ⟨rfl, hb⟩
  clear x0 x1 x2 x3 x4 x5 x6 x7 zX z2
  replace jB := bwS jB (Nat.le_refl _) hb
  clear hb
  by_cases z1 : B = 0
  case neg =>
    have e1 := Lib.hid (HE1.out.trans (orE_left z1))
    have z2 : (B != 0) = true := by simpa using z1
    clear z1
    go_wp2
    go_ret
    exact ⟨ret_int e1.out.symm, jB⟩
  have z2 : (B != 0) = false := by simpa using z1
  have HE2 := Lib.hid (HE1.out.trans (orE_right z1))
  clear z1 HE1
  go_wp2_with fail
  refine (HD.out _ jB).mono ?_
  rintro e w4 ⟨rfl, hb⟩
  replace jB := bwS jB (Nat.le_refl _) hb
  clear hb z2
  go_wp2
  go_ret
  exact ⟨ret_int HE2.out.symm, jB⟩
end Go.Proofs.YtdbiijldincoiaaGreat

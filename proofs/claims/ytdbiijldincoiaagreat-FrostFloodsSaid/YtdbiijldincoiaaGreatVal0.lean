/-
  Valid ice: plain facts.
-/
import Derived.Test.YtdbiijldincoiaaGreatAll
import Derived.Test.YtdbiijldincoiaaGreatIceOf
set_option linter.unusedVariables false
set_option linter.unusedSimpArgs false
namespace Go.Proofs.YtdbiijldincoiaaGreat
open Go.RowKit

def Ic.e (x : Ic) : Int := eIce x.b0 x.b1 x.w0 x.w1 x.q0 x.q1 x.s0 x.s1
theorem eS_zero {lo hi a b : Int} (h1 : a ≤ lo) (h2 : lo ≤ hi) (h3 : hi ≤ b) : eS lo hi a b = 0 := by
  unfold eS eR eN eO orE
  rw [if_neg (show ¬ (lo < a ∨ b < lo) by omega), if_neg (show ¬ (hi < a ∨ b < hi) by omega)]
  simp [h2]

structure Ic.Val (x : Ic) : Prop where
  b : 0 ≤ x.b0 ∧ x.b0 ≤ x.b1 ∧ x.b1 ≤ 5000
  w : 0 ≤ x.w0 ∧ x.w0 ≤ x.w1 ∧ x.w1 ≤ 5000
  q : 0 ≤ x.q0 ∧ x.q0 ≤ x.q1 ∧ x.q1 ≤ 5000
  s : 0 ≤ x.s0 ∧ x.s0 ≤ x.s1 ∧ x.s1 ≤ 5000
theorem Ic.Val.e {x : Ic} (h : x.Val) : x.e = 0 := by
  obtain ⟨h1, h2, h3, h4⟩ := h
  unfold Ic.e eIce
  have e1 := eS_zero h1.1 h1.2.1 h1.2.2
  have e2 := eS_zero h2.1 h2.2.1 h2.2.2
  have e3 := eS_zero h3.1 h3.2.1 h3.2.2
  have e4 := eS_zero h4.1 h4.2.1 h4.2.2
  simp [firstNZ, iceE, orE, e1, e2, e3, e4]
end Go.Proofs.YtdbiijldincoiaaGreat

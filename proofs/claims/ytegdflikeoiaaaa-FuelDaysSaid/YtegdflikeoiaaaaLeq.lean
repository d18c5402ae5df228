/-
  Both Lasts answer the same numbers.
-/
import Derived.Test.YtegdflikeoiaaaaRla
set_option linter.unusedVariables false
set_option linter.unusedSimpArgs false
namespace Go.Proofs.Ytegdflikeoiaaaa
open Go.RowKit

def lasE (l0 l1 : Int) (n : Nat) (U : Nat → Bu) (m : Nat) (C D : Nat → Int) : Int := eLas l0 l1 n U m C D
def lasP (l0 l1 : Int) (n : Nat) (U : Nat → Bu) (m : Nat) (C D : Nat → Int) : Int := if eLas l0 l1 n U m C D = 0 then ((lastN (fun i => bnB U n (C i) (D i) n) l0 m : Nat) : Int) else 0
def lasQ (l0 l1 : Int) (n : Nat) (U : Nat → Bu) (m : Nat) (C D : Nat → Int) : Int := if eLas l0 l1 n U m C D = 0 then ((lastN (fun i => bnA U n (C i) (D i) n) l1 m : Nat) : Int) else 0
theorem las_out (l0 l1 : Int) (n : Nat) (U : Nat → Bu) (m : Nat) (C D : Nat → Int) : LasOut l0 l1 n U m C D (.tuple #[.agg #[.int .i64 (lasP l0 l1 n U m C D), .int .i64 (lasQ l0 l1 n U m C D)], .int .i64 (lasE l0 l1 n U m C D)]) := by
  unfold lasP lasQ lasE
  by_cases h : eLas l0 l1 n U m C D = 0
  · right
    refine ⟨h, lastN (fun i => bnB U n (C i) (D i) n) l0 m, lastN (fun i => bnA U n (C i) (D i) n) l1 m, ?_, ?_, ?_⟩
    · obtain ⟨g1, g2⟩ := orE_zero h
      obtain ⟨g3, g4⟩ := orE_zero g2
      obtain ⟨u1, u2, u3, u4, u5⟩ := eBur_zero g3
      exact lastN_day _ _ _ (fun i _ => (bnB_bd u3 _ _ n (Nat.le_refl _)).1)
    · obtain ⟨g1, g2⟩ := orE_zero h
      obtain ⟨g3, g4⟩ := orE_zero g2
      obtain ⟨u1, u2, u3, u4, u5⟩ := eBur_zero g3
      exact lastN_day _ _ _ (fun i _ => (bnA_bd u3 _ _ n (Nat.le_refl _)).1)
    · rw [if_pos h, if_pos h, h]
  · left
    exact ⟨h, by rw [if_neg h, if_neg h]⟩
theorem lasts_eq (l0 l1 : Int) (n : Nat) (U : Nat → Bu) (vU : Value) (m : Nat) (C D : Nat → Int) (vC : Value) (w : World) (hU : BusAt w vU n U) (hC : SpansAt w vC m C D) :
    Calls Try.prog 47 #[.agg #[.int .i64 l0, .int .i64 l1], vU, vC] w fun e w' => e = .returned (.tuple #[.agg #[.int .i64 (lasP l0 l1 n U m C D), .int .i64 (lasQ l0 l1 n U m C D)], .int .i64 (lasE l0 l1 n U m C D)]) ∧ Below w.heap.size w w' :=
  (lasts_any l0 l1 n U vU m C D vC w hU hC).mono fun e w' ⟨v, h1, h2, h3⟩ => ⟨by rw [h1, h2.uniq (las_out l0 l1 n U m C D)], h3⟩
theorem rlasts_eq (l0 l1 : Int) (n : Nat) (U : Nat → Bu) (vU : Value) (m : Nat) (C D : Nat → Int) (vC : Value) (w : World) (hU : BusAt w vU n U) (hC : SpansAt w vC m C D) :
    Calls Try.prog 48 #[.agg #[.int .i64 l0, .int .i64 l1], vU, vC] w fun e w' => e = .returned (.tuple #[.agg #[.int .i64 (lasP l0 l1 n U m C D), .int .i64 (lasQ l0 l1 n U m C D)], .int .i64 (lasE l0 l1 n U m C D)]) ∧ Below w.heap.size w w' :=
  (rlasts_any l0 l1 n U vU m C D vC w hU hC).mono fun e w' ⟨v, h1, h2, h3⟩ => ⟨by rw [h1, h2.uniq (las_out l0 l1 n U m C D)], h3⟩
end Go.Proofs.Ytegdflikeoiaaaa

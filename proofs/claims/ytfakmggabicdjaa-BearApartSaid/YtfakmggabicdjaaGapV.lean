/-
  A row of trucks with a gap: with a greater gap no burden is greater; its verdicts where the ice is one thickness and has no cracks. Speaks of no program.
-/
import Derived.Test.YtfakmggabicdjaaLeaV
set_option linter.unusedVariables false
set_option linter.unusedSimpArgs false
namespace Go.Proofs.Ytfakmggabicdjaa
open Go.RowKit

def rowL (W0 W1 : Nat → Int) (g : Int) (i : Nat) : Ld := ⟨g * (i : Int), W0 i, W1 i, 0⟩
def rowB (p : Pl) (th : Int) (W0 W1 : Nat → Int) (n : Nat) (g : Int) (i : Nat) : Bool := decide (burdV p false n (rowL W0 W1 g) (g * (i : Int)) * 1000000 ≤ limV p false th 0)
def allB (f : Nat → Bool) : Nat → Bool
  | 0 => true
  | n + 1 => allB f n && f n
theorem allB_iff (f : Nat → Bool) : ∀ n, allB f n = true ↔ ∀ i, i < n → f i = true
  | 0 => by simp [allB]
  | n + 1 => by
    rw [allB, Bool.and_eq_true, allB_iff f n]
    exact ⟨fun h i hi => by
      by_cases e : i = n
      · subst e; exact h.2
      · exact h.1 i (by omega), fun h => ⟨fun i hi => h i (by omega), h n (by omega)⟩⟩
def rowV (p : Pl) (th : Int) (W0 W1 : Nat → Int) (n : Nat) (g : Int) : Bool := allB (rowB p th W0 W1 n g) n
theorem far_times {g : Int} (h : 0 ≤ g) (i k : Nat) : farV (g * (i : Int)) (g * (k : Int)) = g * farV (i : Int) (k : Int) := by
  have e1 : g * (i : Int) - g * (k : Int) = g * ((i : Int) - (k : Int)) := (Int.mul_sub g _ _).symm
  have e2 : g * (k : Int) - g * (i : Int) = g * ((k : Int) - (i : Int)) := (Int.mul_sub g _ _).symm
  unfold farV
  rw [e1, e2]
  rcases Int.le_total (k : Int) (i : Int) with q | q
  · have a := Int.mul_le_mul_of_nonneg_left (show (k : Int) - (i : Int) ≤ (i : Int) - (k : Int) by omega) h
    rw [Int.max_eq_left a, Int.max_eq_left (by omega)]
  · have a := Int.mul_le_mul_of_nonneg_left (show (i : Int) - (k : Int) ≤ (k : Int) - (i : Int) by omega) h
    rw [Int.max_eq_right a, Int.max_eq_right (by omega)]
theorem far_gap {g g' : Int} (h0 : 0 ≤ g) (h : g ≤ g') (i k : Nat) : 0 ≤ farV (g * (i : Int)) (g * (k : Int)) ∧ farV (g * (i : Int)) (g * (k : Int)) ≤ farV (g' * (i : Int)) (g' * (k : Int)) := by
  have n0 : 0 ≤ farV (i : Int) (k : Int) := by unfold farV; omega
  rw [far_times h0, far_times (by omega)]
  exact ⟨Int.mul_nonneg h0 n0, Int.mul_le_mul_of_nonneg_right h n0⟩
theorem burd_gap {p : Pl} (hp : p.Ok) {W0 W1 : Nat → Int} {n : Nat} {g g' : Int} (h0 : 0 ≤ g) (h : g ≤ g') (hW : ∀ i, i < n → 0 ≤ W1 i) (i : Nat) :
    burdV p false n (rowL W0 W1 g') (g' * (i : Int)) ≤ burdV p false n (rowL W0 W1 g) (g * (i : Int)) := by
  unfold burdV
  refine sumV_le n fun k hk => ?_
  have q := far_gap h0 h i k
  have r := hp.S.val_anti q.1 q.2
  exact Int.mul_le_mul_of_nonneg_left r (hW k hk)
theorem row_gap {p : Pl} (hp : p.Ok) {th : Int} {W0 W1 : Nat → Int} {n : Nat} {g g' : Int} (h0 : 0 ≤ g) (h : g ≤ g') (hW : ∀ i, i < n → 0 ≤ W1 i) (hr : rowV p th W0 W1 n g = true) : rowV p th W0 W1 n g' = true := by
  unfold rowV at hr ⊢
  rw [allB_iff] at hr ⊢
  intro i hi
  have a := hr i hi
  have b := burd_gap hp h0 h hW i (W0 := W0)
  simp only [rowB, decide_eq_true_eq] at a ⊢
  omega
theorem verd_row {p : Pl} {th : Int} {W0 W1 : Nat → Int} {n : Nat} {g : Int} {I0 I1 C0 C1 : Nat → Int} (i : Nat) (hI : I0 ((g * (i : Int)) / 100).toNat = th) :
    verdV p I0 I1 0 C0 C1 n (rowL W0 W1 g) (rowL W0 W1 g i) = 1 ↔ rowB p th W0 W1 n g i = true := by
  have e : bearsV p false I0 I1 0 C0 C1 n (rowL W0 W1 g) (rowL W0 W1 g i) = rowB p th W0 W1 n g i := by
    have e2 : thickV p false I0 I1 0 C0 C1 (g * (i : Int)) = th := by
      simp [thickV, thinV, nearV, anyV, endV, hI]
    unfold bearsV rowB
    show decide (burdV p false n (rowL W0 W1 g) (g * (i : Int)) * 1000000 ≤ limV p false (thickV p false I0 I1 0 C0 C1 (g * (i : Int))) 0) = _
    rw [e2]
  unfold verdV
  rw [e]
  cases rowB p th W0 W1 n g i with
  | true => simp
  | false => cases bearsV p true I0 I1 0 C0 C1 n (rowL W0 W1 g) (rowL W0 W1 g i) <;> simp
end Go.Proofs.Ytfakmggabicdjaa

/-
  The first of some numbers that is so, and the last one; Need and Stands by them. Speaks of no program.
-/
import Derived.Test.YtfakmggabicdjaaLeaV
set_option linter.unusedVariables false
set_option linter.unusedSimpArgs false
namespace Go.Proofs.Ytfakmggabicdjaa
open Go.RowKit

def lstV (f : Nat → Bool) : Nat → Nat
  | 0 => 0
  | n + 1 => if lstV f n < n then lstV f n else if f n = true then n else n + 1
theorem lstV_prop (f : Nat → Bool) : ∀ n, lstV f n ≤ n ∧ (lstV f n < n → f (lstV f n) = true) ∧ ∀ j, j < lstV f n → f j = false
  | 0 => ⟨Nat.le_refl _, fun h => by simp [lstV] at h, fun j h => by simp [lstV] at h⟩
  | n + 1 => by
    obtain ⟨h1, h2, h3⟩ := lstV_prop f n
    rw [lstV]
    by_cases a : lstV f n < n
    · rw [if_pos a]
      exact ⟨by omega, fun _ => h2 a, h3⟩
    · rw [if_neg a]
      have e : lstV f n = n := by omega
      rw [e] at h3
      by_cases b : f n = true
      · rw [if_pos b]
        exact ⟨by omega, fun _ => b, h3⟩
      · rw [if_neg b]
        refine ⟨Nat.le_refl _, fun h => by omega, fun j hj => ?_⟩
        by_cases c : j = n
        · subst c; simpa using b
        · exact h3 j (by omega)
theorem lstV_eq {f : Nat → Bool} {n k : Nat} (h1 : k ≤ n) (h2 : k < n → f k = true) (h3 : ∀ j, j < k → f j = false) : lstV f n = k := by
  obtain ⟨a, b, c⟩ := lstV_prop f n
  by_cases x : lstV f n < k
  · have := h3 _ x
    rw [b (by omega)] at this
    simp at this
  · by_cases y : k < lstV f n
    · have := c k y
      rw [h2 (by omega)] at this
      simp at this
    · omega
theorem lstV_two {f : Nat → Bool} {n k : Nat} (hm : ∀ i j, i ≤ j → f i = true → f j = true) (h1 : k ≤ n) (h2 : k < n → f k = true) (h3 : ∀ j, k = j + 1 → f j = false) : lstV f n = k :=
  lstV_eq h1 h2 fun j hj => by
    obtain ⟨m, rfl⟩ : ∃ m, k = m + 1 := ⟨k - 1, by omega⟩
    have a := h3 m rfl
    cases e : f j with
    | false => rfl
    | true => rw [hm j m (by omega) e] at a; exact a
def lastV (f : Nat → Bool) : Nat → Int
  | 0 => -1
  | n + 1 => if f n = true then (n : Int) else lastV f n
theorem lastV_in (f : Nat → Bool) : ∀ n, -1 ≤ lastV f n ∧ lastV f n < n
  | 0 => by simp [lastV]
  | n + 1 => by
    have := lastV_in f n
    rw [lastV]
    split <;> omega
theorem lastV_lst {f : Nat → Bool} (hm : ∀ i j, i ≤ j → f j = true → f i = true) : ∀ n, lastV f n = (lstV (fun i => !f i) n : Int) - 1
  | 0 => by simp [lastV, lstV]
  | n + 1 => by
    have ih := lastV_lst hm n
    obtain ⟨h1, h2, h3⟩ := lstV_prop (fun i => !f i) n
    rw [lastV, lstV]
    by_cases e : f n = true
    · have a : ¬ lstV (fun i => !f i) n < n := fun q => by
        have := h2 q
        simp only [hm _ n (by omega) e, Bool.not_true] at this
        simp at this
      rw [if_pos e, if_neg a, if_neg (by simp [e])]
      omega
    · rw [if_neg e, ih]
      by_cases a : lstV (fun i => !f i) n < n
      · rw [if_pos a]
      · rw [if_neg a, if_pos (by simpa using e)]
        omega
def needF (p : Pl) (wt mi : Int) (d : Nat) : Bool := decide (wt ≤ limV p false (d : Int) mi / 1000000000000)
def standF (p : Pl) (th wt : Int) (d : Nat) : Bool := decide (wt ≤ limV p false th (d : Int) / 1000000000000)
theorem need_up {p : Pl} (hp : p.Ok) (wt mi : Int) (i j : Nat) (h : i ≤ j) (hi : needF p wt mi i = true) : needF p wt mi j = true := by
  have := hp.lim_thick false (a := (i : Int)) (b := (j : Int)) mi (by omega) (by omega)
  simp only [needF, decide_eq_true_eq] at hi ⊢
  omega
theorem stand_down {p : Pl} (hp : p.Ok) {th : Int} (ht : 0 ≤ th) (wt : Int) (i j : Nat) (h : i ≤ j) (hj : standF p th wt j = true) : standF p th wt i = true := by
  have := hp.lim_stand false (th := th) (a := (i : Int)) (b := (j : Int)) ht (by omega) (by omega)
  simp only [standF, decide_eq_true_eq] at hj ⊢
  omega
end Go.Proofs.Ytfakmggabicdjaa

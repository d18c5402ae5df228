/-
  Ascending numbers put together to spans, each as long as can be. For Speeds. Speaks of no program.
-/
import Derived.Test.YtfakmggabicdjaaRow
set_option linter.unusedVariables false
set_option linter.unusedSimpArgs false
namespace Go.Proofs.Ytfakmggabicdjaa
open Go.RowKit

structure Sp where
  m : Nat
  A : Nat → Int
  B : Nat → Int
def spStep (s : Sp) (v : Nat) : Sp :=
  if 0 < s.m ∧ s.B (s.m - 1) = (v : Int) - 1 then ⟨s.m, s.A, upI s.B (s.m - 1) v⟩ else ⟨s.m + 1, upI s.A s.m v, upI s.B s.m v⟩
def spV (f : Nat → Bool) : Nat → Sp
  | 0 => ⟨0, fun _ => 0, fun _ => 0⟩
  | v + 1 => if f v = true then spStep (spV f v) v else spV f v
structure SpOk (f : Nat → Bool) (v : Nat) (s : Sp) : Prop where
  each : ∀ i, i < s.m → 0 ≤ s.A i ∧ s.A i ≤ s.B i ∧ s.B i < (v : Int)
  apart : ∀ i, i + 1 < s.m → s.B i + 1 < s.A (i + 1)
  all : ∀ x : Nat, x < v → (f x = true ↔ ∃ i, i < s.m ∧ s.A i ≤ (x : Int) ∧ (x : Int) ≤ s.B i)
theorem SpOk.lt {f : Nat → Bool} {v : Nat} {s : Sp} (h : SpOk f v s) : ∀ (j i : Nat), i < j → j < s.m → s.B i + 1 < s.A j
  | 0, i, hi, _ => by omega
  | j + 1, i, hi, hj => by
    by_cases e : i = j
    · subst e; exact h.apart i hj
    · have a := h.lt j i (by omega) (by omega)
      have b := h.each j (by omega)
      have c := h.apart j hj
      omega
theorem spV_ok (f : Nat → Bool) : ∀ v, SpOk f v (spV f v)
  | 0 => ⟨fun i hi => by simp [spV] at hi, fun i hi => by simp [spV] at hi, fun x hx => by omega⟩
  | v + 1 => by
    have ih := spV_ok f v
    rw [spV]
    generalize spV f v = s at ih
    by_cases hf : f v = true
    · rw [if_pos hf]
      unfold spStep
      by_cases hl : 0 < s.m ∧ s.B (s.m - 1) = (v : Int) - 1
      · rw [if_pos hl]
        obtain ⟨h0, h1⟩ := hl
        refine ⟨fun i hi => ?_, fun i hi => ?_, fun x hx => ?_⟩
        · have q := ih.each i hi
          by_cases e : i = s.m - 1
          · subst e; simp only [upI_at]; omega
          · simp only [upI_ne _ _ _ _ e]; omega
        · have q := ih.apart i hi
          simp only at hi
          simp only [upI_ne _ _ _ _ (show i ≠ s.m - 1 by omega)]
          exact q
        · by_cases e : x = v
          · subst e
            refine ⟨fun _ => ⟨s.m - 1, by simp only; omega, ?_, ?_⟩, fun _ => hf⟩
            · have q := ih.each (s.m - 1) (by omega); simp only; omega
            · simp only [upI_at]; omega
          · rw [ih.all x (by omega)]
            constructor
            · rintro ⟨i, hi, a, b⟩
              refine ⟨i, hi, a, ?_⟩
              by_cases e2 : i = s.m - 1
              · subst e2; simp only [upI_at]; omega
              · simp only [upI_ne _ _ _ _ e2]; exact b
            · rintro ⟨i, hi, a, b⟩
              refine ⟨i, hi, a, ?_⟩
              by_cases e2 : i = s.m - 1
              · subst e2; omega
              · simp only [upI_ne _ _ _ _ e2] at b; exact b
      · rw [if_neg hl]
        have last : 0 < s.m → s.B (s.m - 1) < (v : Int) - 1 := fun h0 => by
          have q := ih.each (s.m - 1) (by omega)
          have r : ¬ s.B (s.m - 1) = (v : Int) - 1 := fun e => hl ⟨h0, e⟩
          omega
        refine ⟨fun i hi => ?_, fun i hi => ?_, fun x hx => ?_⟩
        · simp only at hi
          by_cases e : i = s.m
          · subst e; simp only [upI_at]; omega
          · have q := ih.each i (by omega)
            simp only [upI_ne _ _ _ _ e]; omega
        · simp only at hi
          by_cases e : i + 1 = s.m
          · have q := last (by omega)
            rw [show s.m - 1 = i by omega] at q
            simp only [e, upI_at, upI_ne _ _ _ _ (show i ≠ s.m by omega)]
            omega
          · have q := ih.apart i (by omega)
            simp only [upI_ne _ _ _ _ (show i ≠ s.m by omega), upI_ne _ _ _ _ (show i + 1 ≠ s.m by omega)]
            exact q
        · by_cases e : x = v
          · subst e
            exact ⟨fun _ => ⟨s.m, by simp only; omega, by simp only [upI_at]; omega, by simp only [upI_at]; omega⟩, fun _ => hf⟩
          · rw [ih.all x (by omega)]
            constructor
            · rintro ⟨i, hi, a, b⟩
              exact ⟨i, by simp only; omega, by simp only [upI_ne _ _ _ _ (show i ≠ s.m by omega)]; exact a, by simp only [upI_ne _ _ _ _ (show i ≠ s.m by omega)]; exact b⟩
            · rintro ⟨i, hi, a, b⟩
              simp only at hi
              by_cases e2 : i = s.m
              · subst e2; simp only [upI_at] at a; omega
              · simp only [upI_ne _ _ _ _ e2] at a b
                exact ⟨i, by omega, a, b⟩
    · rw [if_neg hf]
      refine ⟨fun i hi => by have := ih.each i hi; omega, ih.apart, fun x hx => ?_⟩
      by_cases e : x = v
      · subst e
        refine ⟨fun h => absurd h hf, ?_⟩
        rintro ⟨i, hi, a, b⟩
        have := ih.each i hi
        omega
      · exact ih.all x (by omega)
end Go.Proofs.Ytfakmggabicdjaa

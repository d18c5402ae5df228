/-
  Verdicts on speeds: at depths within, and near the shore. For BearWaves. Speaks of no program.
-/
import Derived.Test.YtfakmggabicdjaaWavV
set_option linter.unusedVariables false
set_option linter.unusedSimpArgs false
namespace Go.Proofs.Ytfakmggabicdjaa
open Go.RowKit

theorem calm_one {p : Pl} {d0 d1 shore v : Int} (h0 : 0 ≤ d0) (h1 : d0 ≤ d1) : calmV p d0 d1 shore v = 1 ↔ ∀ d : Nat, d0 ≤ (d : Int) → (d : Int) ≤ d1 → critV p shore v d = false := by
  have z := cntB_zero (critV p shore v) d0.toNat (d1 - d0 + 1).toNat
  unfold calmV
  constructor
  · intro e d a b
    have q : cntB (critV p shore v) d0.toNat (d1 - d0 + 1).toNat = 0 := by
      by_cases c : cntB (critV p shore v) d0.toNat (d1 - d0 + 1).toNat = 0
      · exact c
      · rw [if_neg c] at e
        split at e <;> simp at e
    have := z.1 q (d - d0.toNat) (by omega)
    rw [show d0.toNat + (d - d0.toNat) = d by omega] at this
    exact this
  · intro h
    rw [if_pos (z.2 fun i hi => h (d0.toNat + i) (by omega) (by omega))]
theorem calm_two {p : Pl} {d0 d1 shore v : Int} (h0 : 0 ≤ d0) (h1 : d0 ≤ d1) : calmV p d0 d1 shore v = 2 ↔ ∀ d : Nat, d0 ≤ (d : Int) → (d : Int) ≤ d1 → critV p shore v d = true := by
  have z := cntB_zero (critV p shore v) d0.toNat (d1 - d0 + 1).toNat
  have al := cntB_all (critV p shore v) d0.toNat (d1 - d0 + 1).toNat
  unfold calmV
  constructor
  · intro e d a b
    have q : cntB (critV p shore v) d0.toNat (d1 - d0 + 1).toNat = (d1 - d0 + 1).toNat := by
      by_cases c : cntB (critV p shore v) d0.toNat (d1 - d0 + 1).toNat = 0
      · rw [if_pos c] at e; simp at e
      · rw [if_neg c] at e
        by_cases c2 : cntB (critV p shore v) d0.toNat (d1 - d0 + 1).toNat = (d1 - d0 + 1).toNat
        · exact c2
        · rw [if_neg c2] at e; simp at e
    have := al.1 q (d - d0.toNat) (by omega)
    rw [show d0.toNat + (d - d0.toNat) = d by omega] at this
    exact this
  · intro h
    have a := al.2 fun i hi => h (d0.toNat + i) (by omega) (by omega)
    rw [if_neg (by omega), if_pos a]
theorem calm_in (p : Pl) (d0 d1 shore v : Int) : calmV p d0 d1 shore v = 1 ∨ calmV p d0 d1 shore v = 2 ∨ calmV p d0 d1 shore v = 3 := by
  unfold calmV
  split
  · exact .inl rfl
  · split
    · exact .inr (.inl rfl)
    · exact .inr (.inr rfl)
theorem calm_within {p : Pl} {d0 d1 e0 e1 shore v : Int} (h0 : 0 ≤ d0) (h1 : d0 ≤ e0) (h2 : e0 ≤ e1) (h3 : e1 ≤ d1) (h : calmV p d0 d1 shore v ≠ 3) : calmV p e0 e1 shore v = calmV p d0 d1 shore v := by
  rcases calm_in p d0 d1 shore v with a | a | a
  · rw [a]
    exact (calm_one (by omega) h2).2 fun d x y => (calm_one h0 (by omega)).1 a d (by omega) (by omega)
  · rw [a]
    exact (calm_two (by omega) h2).2 fun d x y => (calm_two h0 (by omega)).1 a d (by omega) (by omega)
  · exact absurd a h
theorem crit_near {p : Pl} (hp : p.Ok) {s t v : Int} {d : Nat} (ht : p.sh ≤ t) (h : critV p t v d = true) : critV p s v d = true := by
  have lo0 := hp.lo0
  have loh := hp.loh
  have gr0 := hp.gr0
  have wi0 := hp.wi0
  have wi1 := hp.wi1
  have a : loB p s ≤ loB p t := by
    rw [show loB p t = p.lo from if_pos ht]
    unfold loB
    split
    · exact Int.le_refl _
    · have := Int.mul_le_mul_of_nonneg_left (show 1000000 - p.wi ≤ 1000000 by omega) (show 0 ≤ p.lo by omega)
      omega
  have b : hiB p t ≤ hiB p s := by
    rw [show hiB p t = p.hi from if_pos ht]
    unfold hiB
    split
    · exact Int.le_refl _
    · have := Int.mul_le_mul_of_nonneg_left (show 1000000 ≤ 1000000 + p.wi by omega) (show 0 ≤ p.hi by omega)
      omega
  have a2 := Int.mul_le_mul_of_nonneg_right (Int.mul_le_mul_of_nonneg_right a (show 0 ≤ p.gr by omega)) (show (0 : Int) ≤ (d : Int) by omega)
  have b2 := Int.mul_le_mul_of_nonneg_right (Int.mul_le_mul_of_nonneg_right b (show 0 ≤ p.gr by omega)) (show (0 : Int) ≤ (d : Int) by omega)
  unfold critV at h ⊢
  rw [Bool.and_eq_true, decide_eq_true_eq, decide_eq_true_eq] at h ⊢
  exact ⟨Int.le_trans a2 h.1, Int.le_trans h.2 b2⟩
theorem calm_shore {p : Pl} (hp : p.Ok) {d0 d1 s t v : Int} (h0 : 0 ≤ d0) (h1 : d0 ≤ d1) (ht : p.sh ≤ t) (h : calmV p d0 d1 s v = 1) : calmV p d0 d1 t v = 1 :=
  (calm_one h0 h1).2 fun d x y => by
    have a := (calm_one h0 h1).1 h d x y
    cases e : critV p t v d with
    | false => rfl
    | true => rw [crit_near hp ht e] at a; exact a
end Go.Proofs.Ytfakmggabicdjaa

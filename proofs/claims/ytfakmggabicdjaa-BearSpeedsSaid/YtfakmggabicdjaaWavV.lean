/-
  Waves: at which depths a speed is critical, and the verdict on a speed. Speaks of no program.
-/
import Derived.Test.YtfakmggabicdjaaMean
set_option linter.unusedVariables false
set_option linter.unusedSimpArgs false
namespace Go.Proofs.Ytfakmggabicdjaa
open Go.RowKit

def loB (p : Pl) (shore : Int) : Int := if p.sh ≤ shore then p.lo else p.lo * (1000000 - p.wi) / 1000000
def hiB (p : Pl) (shore : Int) : Int := if p.sh ≤ shore then p.hi else (p.hi * (1000000 + p.wi) + 1000000 - 1) / 1000000
def critV (p : Pl) (shore v : Int) (d : Nat) : Bool := decide (loB p shore * p.gr * (d : Int) ≤ v * v * 1000000) && decide (v * v * 1000000 ≤ hiB p shore * p.gr * (d : Int))
def cntB (c : Nat → Bool) (k : Nat) : Nat → Nat
  | 0 => 0
  | m + 1 => if c (k + m) = true then cntB c k m + 1 else cntB c k m
theorem cntB_le (c : Nat → Bool) (k : Nat) : ∀ m, cntB c k m ≤ m
  | 0 => Nat.le_refl _
  | m + 1 => by
    rw [cntB]
    have := cntB_le c k m
    split <;> omega
theorem cntB_zero (c : Nat → Bool) (k : Nat) : ∀ m, cntB c k m = 0 ↔ ∀ i, i < m → c (k + i) = false
  | 0 => by simp [cntB]
  | m + 1 => by
    have h := cntB_zero c k m
    rw [cntB]
    cases e : c (k + m) with
    | true =>
      rw [if_pos rfl]
      exact ⟨fun q => by omega, fun q => by have := q m (by omega); rw [e] at this; simp at this⟩
    | false =>
      rw [if_neg (by simp), h]
      exact ⟨fun q i hi => by
        by_cases z : i = m
        · subst z; exact e
        · exact q i (by omega), fun q i hi => q i (by omega)⟩
theorem cntB_all (c : Nat → Bool) (k : Nat) : ∀ m, cntB c k m = m ↔ ∀ i, i < m → c (k + i) = true
  | 0 => by simp [cntB]
  | m + 1 => by
    have h := cntB_all c k m
    have hl := cntB_le c k m
    rw [cntB]
    cases e : c (k + m) with
    | true =>
      rw [if_pos rfl]
      constructor
      · intro q i hi
        by_cases z : i = m
        · subst z; exact e
        · exact h.1 (by omega) i (by omega)
      · intro q
        have := h.2 (fun i hi => q i (by omega))
        omega
    | false =>
      rw [if_neg (by simp)]
      exact ⟨fun q => by omega, fun q => by have := q m (by omega); rw [e] at this; simp at this⟩
def calmV (p : Pl) (d0 d1 shore v : Int) : Int :=
  if cntB (critV p shore v) d0.toNat (d1 - d0 + 1).toNat = 0 then 1 else if cntB (critV p shore v) d0.toNat (d1 - d0 + 1).toNat = (d1 - d0 + 1).toNat then 2 else 3
theorem lo_in {p : Pl} (hp : p.Ok) (shore : Int) : 0 ≤ loB p shore ∧ loB p shore ≤ 4000000 := by
  have := hp.lo0; have := hp.loh; have := hp.hi1; have := hp.wi0; have := hp.wi1
  unfold loB
  split
  · omega
  · have a := Int.mul_nonneg (show 0 ≤ p.lo by omega) (show 0 ≤ 1000000 - p.wi by omega)
    have b := Int.mul_le_mul_of_nonneg_left (show 1000000 - p.wi ≤ 1000000 by omega) (show 0 ≤ p.lo by omega)
    omega
theorem hi_in {p : Pl} (hp : p.Ok) (shore : Int) : 0 ≤ hiB p shore ∧ hiB p shore ≤ 8000000 := by
  have := hp.lo0; have := hp.loh; have := hp.hi1; have := hp.wi0; have := hp.wi1
  unfold hiB
  split
  · omega
  · have a := Int.mul_nonneg (show 0 ≤ p.hi by omega) (show 0 ≤ 1000000 + p.wi by omega)
    have b := Int.mul_le_mul_of_nonneg_left (show 1000000 + p.wi ≤ 2000000 by omega) (show 0 ≤ p.hi by omega)
    omega
theorem crit_ends {p : Pl} (hp : p.Ok) {shore v : Int} {f b : Nat} (f1 : f ≤ 10001) (b1 : b ≤ 10001) (f2 : f < 10001 → v * v * 1000000 ≤ hiB p shore * p.gr * (f : Int)) (f3 : ∀ j : Nat, f = j + 1 → ¬ v * v * 1000000 ≤ hiB p shore * p.gr * (j : Int))
    (b2 : b < 10001 → v * v * 1000000 < loB p shore * p.gr * (b : Int)) (b3 : ∀ j : Nat, b = j + 1 → ¬ v * v * 1000000 < loB p shore * p.gr * (j : Int)) (d : Nat) (hd : d ≤ 10000) :
    critV p shore v d = true ↔ f ≤ d ∧ d < b := by
  have g0 := hp.gr0
  have a := Int.mul_nonneg (hi_in hp shore).1 (show 0 ≤ p.gr by omega)
  have c := Int.mul_nonneg (lo_in hp shore).1 (show 0 ≤ p.gr by omega)
  have mono : ∀ {X : Int} {m n : Nat}, 0 ≤ X → m ≤ n → X * (m : Int) ≤ X * (n : Int) := fun hX hmn => Int.mul_le_mul_of_nonneg_left (by omega) hX
  have h1 : v * v * 1000000 ≤ hiB p shore * p.gr * (d : Int) ↔ f ≤ d := by
    constructor
    · intro q
      by_cases z : f ≤ d
      · exact z
      · obtain ⟨j, rfl⟩ : ∃ j, f = j + 1 := ⟨f - 1, by omega⟩
        have := mono a (show d ≤ j by omega)
        exact absurd (Int.le_trans q this) (f3 j rfl)
    · intro q
      by_cases z : f < 10001
      · exact Int.le_trans (f2 z) (mono a q)
      · omega
  have h2 : loB p shore * p.gr * (d : Int) ≤ v * v * 1000000 ↔ d < b := by
    constructor
    · intro q
      by_cases z : d < b
      · exact z
      · have := mono c (show b ≤ d by omega)
        have := b2 (by omega)
        omega
    · intro q
      obtain ⟨j, rfl⟩ : ∃ j, b = j + 1 := ⟨b - 1, by omega⟩
      have := mono c (show d ≤ j by omega)
      have := b3 j rfl
      omega
  unfold critV
  rw [Bool.and_eq_true, decide_eq_true_eq, decide_eq_true_eq, h1, h2]
  omega
theorem calm_ends {p : Pl} {d0 d1 shore v : Int} (h0 : 0 ≤ d0) (h1 : d0 ≤ d1) (h2 : d1 ≤ 10000) {f b : Nat} (hc : ∀ d : Nat, d ≤ 10000 → (critV p shore v d = true ↔ f ≤ d ∧ d < b)) :
    calmV p d0 d1 shore v = if min d1 ((b : Int) - 1) < max d0 (f : Int) then 1 else if max d0 (f : Int) = d0 ∧ min d1 ((b : Int) - 1) = d1 then 2 else 3 := by
  obtain ⟨k, hk⟩ := Int.eq_ofNat_of_zero_le h0
  obtain ⟨m, hm⟩ := Int.eq_ofNat_of_zero_le (show 0 ≤ d1 - d0 + 1 by omega)
  have ek : d0.toNat = k := by omega
  have em : (d1 - d0 + 1).toNat = m := by omega
  unfold calmV
  rw [ek, em]
  have z := cntB_zero (critV p shore v) k m
  have al := cntB_all (critV p shore v) k m
  have nt : ∀ d : Nat, d ≤ 10000 → (critV p shore v d = false ↔ ¬ (f ≤ d ∧ d < b)) := fun d hd => by
    rw [← hc d hd]
    simp
  by_cases q : min d1 ((b : Int) - 1) < max d0 (f : Int)
  · rw [if_pos q, if_pos (z.2 fun i hi => (nt (k + i) (by omega)).2 (by omega))]
  · rw [if_neg q, if_neg]
    · by_cases q2 : max d0 (f : Int) = d0 ∧ min d1 ((b : Int) - 1) = d1
      · rw [if_pos q2, if_pos (al.2 fun i hi => (hc (k + i) (by omega)).2 (by omega))]
      · rw [if_neg q2, if_neg]
        intro e
        have e2 := al.1 e
        apply q2
        have a0 := (hc (k + 0) (by omega)).1 (e2 0 (by omega))
        have a1 := (hc (k + (m - 1)) (by omega)).1 (e2 (m - 1) (by omega))
        omega
    · intro e
      have e2 := z.1 e
      obtain ⟨i, hi⟩ : ∃ i : Nat, max d0 (f : Int) = (k : Int) + (i : Int) := ⟨(max d0 (f : Int) - k).toNat, by omega⟩
      have := (nt (k + i) (by omega)).1 (e2 i (by omega))
      omega
end Go.Proofs.Ytfakmggabicdjaa

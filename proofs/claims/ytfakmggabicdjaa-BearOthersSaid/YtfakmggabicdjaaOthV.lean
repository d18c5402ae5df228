/-
  Verdicts with a load more, and of loads turned round. Speaks of no program.
-/
import Derived.Test.YtfakmggabicdjaaMean
set_option linter.unusedVariables false
set_option linter.unusedSimpArgs false
namespace Go.Proofs.Ytfakmggabicdjaa
open Go.RowKit

theorem sumV_congr {f g : Nat → Int} : ∀ n, (∀ i, i < n → f i = g i) → sumV f n = sumV g n
  | 0, _ => rfl
  | n + 1, h => by rw [sumV, sumV, sumV_congr n (fun i hi => h i (by omega)), h n (by omega)]
theorem sumV_front (f : Nat → Int) : ∀ n, sumV f (n + 1) = f 0 + sumV (fun i => f (i + 1)) n
  | 0 => by simp [sumV]
  | n + 1 => by
    rw [sumV, sumV_front f n, sumV]
    omega
theorem sumV_turn (f : Nat → Int) : ∀ n, sumV (fun i => f (n - 1 - i)) n = sumV f n
  | 0 => rfl
  | n + 1 => by
    rw [sumV_front (fun i => f (n + 1 - 1 - i)) n]
    have e : sumV (fun i => f (n + 1 - 1 - (i + 1))) n = sumV (fun i => f (n - 1 - i)) n := sumV_congr n fun i hi => by
      rw [show n + 1 - 1 - (i + 1) = n - 1 - i by omega]
    rw [e, sumV_turn f n, sumV, show n + 1 - 1 - 0 = n by omega]
    omega
theorem verd_turn {p : Pl} {I0 I1 : Nat → Int} {nc : Nat} {C0 C1 : Nat → Int} {n : Nat} {L T : Nat → Ld} (h : ∀ i, i < n → T i = L (n - 1 - i)) (x : Ld) :
    verdV p I0 I1 nc C0 C1 n T x = verdV p I0 I1 nc C0 C1 n L x := by
  have hb : ∀ b, burdV p b n T x.me = burdV p b n L x.me := fun b => by
    unfold burdV
    rw [← sumV_turn (fun i => endV (!b) (L i).w0 (L i).w1 * partL p L x.me i) n]
    exact sumV_congr n fun i hi => by simp only [partL, h i hi]
  unfold verdV bearsV
  rw [hb, hb]
theorem burd_more {p : Pl} (b : Bool) {n : Nat} {L M : Nat → Ld} (h : ∀ i, i < n → M i = L i) (a : Int) : burdV p b (n + 1) M a = burdV p b n L a + endV (!b) (M n).w0 (M n).w1 * partL p M a n := by
  unfold burdV
  rw [sumV]
  congr 1
  exact sumV_congr n fun i hi => by simp only [partL, h i hi]
theorem verd_more {p : Pl} (hp : p.Ok) {I0 I1 : Nat → Int} {nc : Nat} {C0 C1 : Nat → Int} {n : Nat} {L M : Nat → Ld} (h : ∀ i, i < n → M i = L i) (hw : 0 ≤ (M n).w0 ∧ (M n).w0 ≤ (M n).w1) (x : Ld) :
    (verdV p I0 I1 nc C0 C1 (n + 1) M x = 1 → verdV p I0 I1 nc C0 C1 n L x = 1) ∧ (verdV p I0 I1 nc C0 C1 n L x = 2 → verdV p I0 I1 nc C0 C1 (n + 1) M x = 2 ∨ verdV p I0 I1 nc C0 C1 (n + 1) M x = 1) := by
  have hle : ∀ b, bearsV p b I0 I1 nc C0 C1 (n + 1) M x = true → bearsV p b I0 I1 nc C0 C1 n L x = true := fun b hb => by
    have t : 0 ≤ endV (!b) (M n).w0 (M n).w1 * partL p M x.me n := Int.mul_nonneg (by cases b <;> simp [endV] <;> omega) (part_in hp M x.me n).1
    unfold bearsV at hb ⊢
    rw [burd_more b h] at hb
    simp only [decide_eq_true_eq] at hb ⊢
    omega
  unfold verdV
  constructor
  · intro e
    cases g : bearsV p false I0 I1 nc C0 C1 (n + 1) M x with
    | true => rw [hle false g]; rfl
    | false => rw [g] at e; cases g2 : bearsV p true I0 I1 nc C0 C1 (n + 1) M x <;> rw [g2] at e <;> simp at e
  · intro e
    cases g : bearsV p false I0 I1 nc C0 C1 (n + 1) M x with
    | true => exact .inr rfl
    | false =>
      cases g2 : bearsV p true I0 I1 nc C0 C1 (n + 1) M x with
      | false => exact .inl rfl
      | true =>
        rw [hle true g2] at e
        cases g3 : bearsV p false I0 I1 nc C0 C1 n L x <;> rw [g3] at e <;> simp at e
theorem verd_apart {p : Pl} {I0 I1 : Nat → Int} {nc : Nat} {C0 C1 : Nat → Int} {n : Nat} {L M : Nat → Ld} (h : ∀ i, i < n → M i = L i) (x : Ld) (h0 : partL p M x.me n = 0) :
    verdV p I0 I1 nc C0 C1 (n + 1) M x = verdV p I0 I1 nc C0 C1 n L x := by
  unfold verdV bearsV
  rw [burd_more false h, burd_more true h, h0]
  simp
end Go.Proofs.Ytfakmggabicdjaa

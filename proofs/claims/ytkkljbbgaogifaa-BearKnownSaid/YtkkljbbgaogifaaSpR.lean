/-
  A store into an owned row of pairs; how spans are put together; what Speeds returns.
-/
import Derived.Test.YtkkljbbgaogifaaNumV
import Derived.Test.YtkkljbbgaogifaaNarB
import Derived.Test.YtkkljbbgaogifaaWav
set_option linter.unusedVariables false
set_option linter.unusedSimpArgs false
namespace Go.Proofs.Ytkkljbbgaogifaa
open Go.RowKit

theorem row_setP {W : World} {base : Nat} {b n cap : Nat} {t : TypeId} {A B : Nat → Int} (h : W.ownsRow base t 2 (.slice (some ⟨b, 0, none⟩) n cap) n (catC (pairC A B) n)) (k : Nat) (hk : k < n) (y : Int) :
    (W.setCell ⟨b, k * 2 + 1, none⟩ (.int .i64 y)).ownsRow base t 2 (.slice (some ⟨b, 0, none⟩) n cap) n (catC (pairC A (upI B k y)) n) := by
  have h1 := row_at_set h (k * 2 + 1) (by omega) (.int .i64 y)
  rw [catC_set (pairC A B) (pairC A (upI B k y)) 2 (fun _ => rfl) (fun _ => rfl) (by decide) k 1 (by decide) _ (fun i hi => by simp only [pairC, upI_ne _ _ _ _ hi]) (by simp only [pairC, upI_at]; rfl) n hk] at h1
  exact h1
theorem row_blk {W : World} {base s n cap : Nat} {t : TypeId} {a : Option Addr} {xs : List Value} (h : W.ownsRow base t s (.slice a n cap) n xs) (h0 : 0 < n) : ∃ g cur, a = some ⟨g, 0, none⟩ ∧ base ≤ g ∧ Blk W g cur t := by
  obtain ⟨hl, h2⟩ := h
  rcases h2 with ⟨hv, hx⟩ | ⟨g, cap', cur, hv, hg, hc, _⟩
  · simp only [Value.slice.injEq] at hv
    omega
  · simp only [Value.slice.injEq] at hv
    exact ⟨g, cur, hv.1, hg, hc⟩
theorem spStep_join {A B : Nat → Int} {j k : Nat} (h : B j = (k : Int) - 1) : spStep ⟨j + 1, A, B⟩ k = ⟨j + 1, A, upI B j k⟩ := by
  unfold spStep
  rw [if_pos ⟨Nat.succ_pos j, h⟩]
  rfl
theorem spStep_none {A B : Nat → Int} {k : Nat} : spStep ⟨0, A, B⟩ k = ⟨1, upI A 0 k, upI B 0 k⟩ := by
  unfold spStep
  rw [if_neg (fun h => absurd h.1 (Nat.lt_irrefl 0))]
theorem spStep_apart {A B : Nat → Int} {j k : Nat} (h : ¬ B j = (k : Int) - 1) : spStep ⟨j + 1, A, B⟩ k = ⟨j + 1 + 1, upI A (j + 1) k, upI B (j + 1) k⟩ := by
  unfold spStep
  rw [if_neg (fun q => h q.2)]
def spdF (p : Pl) (a b shore : Int) (v : Nat) : Bool := decide (calmV p a b shore (v : Int) = 1)
def spdS (p : Pl) (a b shore : Int) : Sp := if eWav p a b shore = 0 then spV (spdF p a b shore) 1001 else ⟨0, fun _ => 0, fun _ => 0⟩
theorem spV_few (f : Nat → Bool) : ∀ v, (spV f v).m ≤ v
  | 0 => Nat.le_refl _
  | v + 1 => by
    have ih := spV_few f v
    rw [spV]
    by_cases h : f v = true
    · rw [if_pos h]
      unfold spStep
      split
      · simp only; omega
      · simp only; omega
    · rw [if_neg h]; omega
theorem pairs_none (w : World) (A B : Nat → Int) : PairsAt w (.slice none 0 0) 0 A B := ⟨none, 0, rfl, by omega, by omega, fun h => absurd h (by omega)⟩
end Go.Proofs.Ytkkljbbgaogifaa

/-
  A goal that is met on many ways is shown once: one or two new blocks, no numbers. Speaks of no program.
-/
import Derived.Test.YtoobgjigfmnnaaaShare
set_option linter.unusedVariables false
set_option linter.unusedSimpArgs false
namespace Go.Proofs.Ytoobgjigfmnnaaa
open Go.RowKit

theorem share0_1 {R : Prop} (H : Nat → World → Prop) {G : Nat → World → Prop} (main : (∀ (b : Nat) (W : World), H b W → G b W) → R) (sub : ∀ (b : Nat) (W : World), H b W → G b W) : R := main sub
theorem share0_2 {R : Prop} (H : Nat → Nat → World → Prop) {G : Nat → Nat → World → Prop} (main : (∀ (b c : Nat) (W : World), H b c W → G b c W) → R) (sub : ∀ (b c : Nat) (W : World), H b c W → G b c W) : R := main sub
end Go.Proofs.Ytoobgjigfmnnaaa

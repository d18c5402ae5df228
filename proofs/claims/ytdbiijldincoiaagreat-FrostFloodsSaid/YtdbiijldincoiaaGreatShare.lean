/-
  A goal that is met on many ways is shown once. Speaks of no program.
  A goal that is met on many ways is shown once: one or two new blocks, no numbers. Speaks of no program.
-/
import Derived.WalkKit
import Derived.Test.YtdbiijldincoiaaGreatBase
set_option linter.unusedVariables false
set_option linter.unusedSimpArgs false
namespace Go.Proofs.YtdbiijldincoiaaGreat
open Go.RowKit

def Blk.num {w : World} {b : Nat} {C : Array Value} {t : TypeId} (_ : Blk w b C t) : Nat := b
theorem share0 {R : Prop} (H : Nat → World → Prop) {G : Nat → World → Prop} (main : (∀ (b : Nat) (W : World), H  b W → G  b W) → R) (sub : ∀ (b : Nat) (W : World), H  b W → G  b W) : R := main sub
theorem awB {w W : World} {o : Obj} {b : Nat} {C : Array Value} {t : TypeId} (h : w.alloc o = W) (k : Blk w b C t) : Blk W b C t := h ▸ k.alloc o
theorem awD {w W : World} {o : Obj} {b : Nat} {C : Array Value} {t : TypeId} (h : (w.alloc o).drew = W) (k : Blk w b C t) : Blk W b C t := h ▸ (k.alloc o).drew
end Go.Proofs.YtdbiijldincoiaaGreat

namespace Go.Proofs.YtdbiijldincoiaaGreat
open Go.RowKit

theorem share0_1 {R : Prop} (H : Nat → World → Prop) {G : Nat → World → Prop} (main : (∀ (b : Nat) (W : World), H b W → G b W) → R) (sub : ∀ (b : Nat) (W : World), H b W → G b W) : R := main sub
theorem share0_2 {R : Prop} (H : Nat → Nat → World → Prop) {G : Nat → Nat → World → Prop} (main : (∀ (b c : Nat) (W : World), H b c W → G b c W) → R) (sub : ∀ (b c : Nat) (W : World), H b c W → G b c W) : R := main sub
end Go.Proofs.YtdbiijldincoiaaGreat

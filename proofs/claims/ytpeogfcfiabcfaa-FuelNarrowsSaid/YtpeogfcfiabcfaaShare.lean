/-
  A goal that is met on many ways is shown once. Speaks of no program.
  A goal that is met on many ways is shown once: one or two new blocks, no numbers. Speaks of no program.
-/
import Derived.WalkKit
import Derived.Test.YtpeogfcfiabcfaaBase
set_option linter.unusedVariables false
set_option linter.unusedSimpArgs false
namespace Go.Proofs.Ytpeogfcfiabcfaa
open Go.RowKit

def Blk.num {w : World} {b : Nat} {C : Array Value} {t : TypeId} (_ : Blk w b C t) : Nat := b
theorem share0 {R : Prop} (H : Nat → World → Prop) {G : Nat → World → Prop} (main : (∀ (b : Nat) (W : World), H  b W → G  b W) → R) (sub : ∀ (b : Nat) (W : World), H  b W → G  b W) : R := main sub
theorem share1 {R : Prop} (H : Int → Nat → World → Prop) {G : Int → Nat → World → Prop} (main : (∀ (n0 : Int) (b : Nat) (W : World), H n0 b W → G n0 b W) → R) (sub : ∀ (n0 : Int) (b : Nat) (W : World), H n0 b W → G n0 b W) : R := main sub
theorem share2 {R : Prop} (H : Int → Int → Nat → World → Prop) {G : Int → Int → Nat → World → Prop} (main : (∀ (n0 n1 : Int) (b : Nat) (W : World), H n0 n1 b W → G n0 n1 b W) → R) (sub : ∀ (n0 n1 : Int) (b : Nat) (W : World), H n0 n1 b W → G n0 n1 b W) : R := main sub
theorem share3 {R : Prop} (H : Int → Int → Int → Nat → World → Prop) {G : Int → Int → Int → Nat → World → Prop} (main : (∀ (n0 n1 n2 : Int) (b : Nat) (W : World), H n0 n1 n2 b W → G n0 n1 n2 b W) → R) (sub : ∀ (n0 n1 n2 : Int) (b : Nat) (W : World), H n0 n1 n2 b W → G n0 n1 n2 b W) : R := main sub
theorem share4 {R : Prop} (H : Int → Int → Int → Int → Nat → World → Prop) {G : Int → Int → Int → Int → Nat → World → Prop} (main : (∀ (n0 n1 n2 n3 : Int) (b : Nat) (W : World), H n0 n1 n2 n3 b W → G n0 n1 n2 n3 b W) → R) (sub : ∀ (n0 n1 n2 n3 : Int) (b : Nat) (W : World), H n0 n1 n2 n3 b W → G n0 n1 n2 n3 b W) : R := main sub
theorem share5 {R : Prop} (H : Int → Int → Int → Int → Int → Nat → World → Prop) {G : Int → Int → Int → Int → Int → Nat → World → Prop} (main : (∀ (n0 n1 n2 n3 n4 : Int) (b : Nat) (W : World), H n0 n1 n2 n3 n4 b W → G n0 n1 n2 n3 n4 b W) → R) (sub : ∀ (n0 n1 n2 n3 n4 : Int) (b : Nat) (W : World), H n0 n1 n2 n3 n4 b W → G n0 n1 n2 n3 n4 b W) : R := main sub
theorem share6 {R : Prop} (H : Int → Int → Int → Int → Int → Int → Nat → World → Prop) {G : Int → Int → Int → Int → Int → Int → Nat → World → Prop} (main : (∀ (n0 n1 n2 n3 n4 n5 : Int) (b : Nat) (W : World), H n0 n1 n2 n3 n4 n5 b W → G n0 n1 n2 n3 n4 n5 b W) → R) (sub : ∀ (n0 n1 n2 n3 n4 n5 : Int) (b : Nat) (W : World), H n0 n1 n2 n3 n4 n5 b W → G n0 n1 n2 n3 n4 n5 b W) : R := main sub
theorem share7 {R : Prop} (H : Int → Int → Int → Int → Int → Int → Int → Nat → World → Prop) {G : Int → Int → Int → Int → Int → Int → Int → Nat → World → Prop} (main : (∀ (n0 n1 n2 n3 n4 n5 n6 : Int) (b : Nat) (W : World), H n0 n1 n2 n3 n4 n5 n6 b W → G n0 n1 n2 n3 n4 n5 n6 b W) → R) (sub : ∀ (n0 n1 n2 n3 n4 n5 n6 : Int) (b : Nat) (W : World), H n0 n1 n2 n3 n4 n5 n6 b W → G n0 n1 n2 n3 n4 n5 n6 b W) : R := main sub
theorem share8 {R : Prop} (H : Int → Int → Int → Int → Int → Int → Int → Int → Nat → World → Prop) {G : Int → Int → Int → Int → Int → Int → Int → Int → Nat → World → Prop} (main : (∀ (n0 n1 n2 n3 n4 n5 n6 n7 : Int) (b : Nat) (W : World), H n0 n1 n2 n3 n4 n5 n6 n7 b W → G n0 n1 n2 n3 n4 n5 n6 n7 b W) → R) (sub : ∀ (n0 n1 n2 n3 n4 n5 n6 n7 : Int) (b : Nat) (W : World), H n0 n1 n2 n3 n4 n5 n6 n7 b W → G n0 n1 n2 n3 n4 n5 n6 n7 b W) : R := main sub
theorem awB {w W : World} {o : Obj} {b : Nat} {C : Array Value} {t : TypeId} (h : w.alloc o = W) (k : Blk w b C t) : Blk W b C t := h ▸ k.alloc o
theorem awD {w W : World} {o : Obj} {b : Nat} {C : Array Value} {t : TypeId} (h : (w.alloc o).drew = W) (k : Blk w b C t) : Blk W b C t := h ▸ (k.alloc o).drew
theorem awR {w W : World} {o : Obj} {base s n : Nat} {e : TypeId} {v : Value} {xs : List Value} (h : w.alloc o = W) (k : w.ownsRow base e s v n xs) : W.ownsRow base e s v n xs := h ▸ k.alloc o
end Go.Proofs.Ytpeogfcfiabcfaa

namespace Go.Proofs.Ytpeogfcfiabcfaa
open Go.RowKit

theorem share0_1 {R : Prop} (H : Nat → World → Prop) {G : Nat → World → Prop} (main : (∀ (b : Nat) (W : World), H b W → G b W) → R) (sub : ∀ (b : Nat) (W : World), H b W → G b W) : R := main sub
theorem share0_2 {R : Prop} (H : Nat → Nat → World → Prop) {G : Nat → Nat → World → Prop} (main : (∀ (b c : Nat) (W : World), H b c W → G b c W) → R) (sub : ∀ (b c : Nat) (W : World), H b c W → G b c W) : R := main sub
end Go.Proofs.Ytpeogfcfiabcfaa

/-
  Shares for late4 (region.py).
-/
import Derived.Test.YtegdflikeoiaaaaShare
set_option linter.unusedVariables false
set_option linter.unusedSimpArgs false
namespace Go.Proofs.Ytegdflikeoiaaaa
open Go.RowKit

theorem share4_0 {R : Prop} (H : World → Prop) {G : World → Prop} (main : (∀ (W : World), H W → G W) → R) (sub : ∀ (W : World), H W → G W) : R := main sub
theorem share4_N {R : Prop} (H : Nat → World → Prop) {G : Nat → World → Prop} (main : (∀ (b0 : Nat) (W : World), H b0 W → G b0 W) → R) (sub : ∀ (b0 : Nat) (W : World), H b0 W → G b0 W) : R := main sub
theorem share4_NN {R : Prop} (H : Nat → Nat → World → Prop) {G : Nat → Nat → World → Prop} (main : (∀ (b0 b1 : Nat) (W : World), H b0 b1 W → G b0 b1 W) → R) (sub : ∀ (b0 b1 : Nat) (W : World), H b0 b1 W → G b0 b1 W) : R := main sub
theorem share4_NNN {R : Prop} (H : Nat → Nat → Nat → World → Prop) {G : Nat → Nat → Nat → World → Prop} (main : (∀ (b0 b1 b2 : Nat) (W : World), H b0 b1 b2 W → G b0 b1 b2 W) → R) (sub : ∀ (b0 b1 b2 : Nat) (W : World), H b0 b1 b2 W → G b0 b1 b2 W) : R := main sub
theorem share4_V {R : Prop} {α : Type} (H : α → World → Prop) {G : α → World → Prop} (main : (∀ (v0 : α) (W : World), H v0 W → G v0 W) → R) (sub : ∀ (v0 : α) (W : World), H v0 W → G v0 W) : R := main sub
theorem share4_VN {R : Prop} {α : Type} (H : α → Nat → World → Prop) {G : α → Nat → World → Prop} (main : (∀ (v0 : α) (b0 : Nat) (W : World), H v0 b0 W → G v0 b0 W) → R) (sub : ∀ (v0 : α) (b0 : Nat) (W : World), H v0 b0 W → G v0 b0 W) : R := main sub
theorem share4_VNN {R : Prop} {α : Type} (H : α → Nat → Nat → World → Prop) {G : α → Nat → Nat → World → Prop} (main : (∀ (v0 : α) (b0 b1 : Nat) (W : World), H v0 b0 b1 W → G v0 b0 b1 W) → R) (sub : ∀ (v0 : α) (b0 b1 : Nat) (W : World), H v0 b0 b1 W → G v0 b0 b1 W) : R := main sub
theorem share4_VNNN {R : Prop} {α : Type} (H : α → Nat → Nat → Nat → World → Prop) {G : α → Nat → Nat → Nat → World → Prop} (main : (∀ (v0 : α) (b0 b1 b2 : Nat) (W : World), H v0 b0 b1 b2 W → G v0 b0 b1 b2 W) → R) (sub : ∀ (v0 : α) (b0 b1 b2 : Nat) (W : World), H v0 b0 b1 b2 W → G v0 b0 b1 b2 W) : R := main sub
theorem share4_VV {R : Prop} {α : Type} (H : α → α → World → Prop) {G : α → α → World → Prop} (main : (∀ (v0 v1 : α) (W : World), H v0 v1 W → G v0 v1 W) → R) (sub : ∀ (v0 v1 : α) (W : World), H v0 v1 W → G v0 v1 W) : R := main sub
theorem share4_VVN {R : Prop} {α : Type} (H : α → α → Nat → World → Prop) {G : α → α → Nat → World → Prop} (main : (∀ (v0 v1 : α) (b0 : Nat) (W : World), H v0 v1 b0 W → G v0 v1 b0 W) → R) (sub : ∀ (v0 v1 : α) (b0 : Nat) (W : World), H v0 v1 b0 W → G v0 v1 b0 W) : R := main sub
theorem share4_VVNN {R : Prop} {α : Type} (H : α → α → Nat → Nat → World → Prop) {G : α → α → Nat → Nat → World → Prop} (main : (∀ (v0 v1 : α) (b0 b1 : Nat) (W : World), H v0 v1 b0 b1 W → G v0 v1 b0 b1 W) → R) (sub : ∀ (v0 v1 : α) (b0 b1 : Nat) (W : World), H v0 v1 b0 b1 W → G v0 v1 b0 b1 W) : R := main sub
theorem share4_VVNNN {R : Prop} {α : Type} (H : α → α → Nat → Nat → Nat → World → Prop) {G : α → α → Nat → Nat → Nat → World → Prop} (main : (∀ (v0 v1 : α) (b0 b1 b2 : Nat) (W : World), H v0 v1 b0 b1 b2 W → G v0 v1 b0 b1 b2 W) → R) (sub : ∀ (v0 v1 : α) (b0 b1 b2 : Nat) (W : World), H v0 v1 b0 b1 b2 W → G v0 v1 b0 b1 b2 W) : R := main sub
theorem share4_VVV {R : Prop} {α : Type} (H : α → α → α → World → Prop) {G : α → α → α → World → Prop} (main : (∀ (v0 v1 v2 : α) (W : World), H v0 v1 v2 W → G v0 v1 v2 W) → R) (sub : ∀ (v0 v1 v2 : α) (W : World), H v0 v1 v2 W → G v0 v1 v2 W) : R := main sub
theorem share4_VVVN {R : Prop} {α : Type} (H : α → α → α → Nat → World → Prop) {G : α → α → α → Nat → World → Prop} (main : (∀ (v0 v1 v2 : α) (b0 : Nat) (W : World), H v0 v1 v2 b0 W → G v0 v1 v2 b0 W) → R) (sub : ∀ (v0 v1 v2 : α) (b0 : Nat) (W : World), H v0 v1 v2 b0 W → G v0 v1 v2 b0 W) : R := main sub
theorem share4_VVVNN {R : Prop} {α : Type} (H : α → α → α → Nat → Nat → World → Prop) {G : α → α → α → Nat → Nat → World → Prop} (main : (∀ (v0 v1 v2 : α) (b0 b1 : Nat) (W : World), H v0 v1 v2 b0 b1 W → G v0 v1 v2 b0 b1 W) → R) (sub : ∀ (v0 v1 v2 : α) (b0 b1 : Nat) (W : World), H v0 v1 v2 b0 b1 W → G v0 v1 v2 b0 b1 W) : R := main sub
theorem share4_VVVNNN {R : Prop} {α : Type} (H : α → α → α → Nat → Nat → Nat → World → Prop) {G : α → α → α → Nat → Nat → Nat → World → Prop} (main : (∀ (v0 v1 v2 : α) (b0 b1 b2 : Nat) (W : World), H v0 v1 v2 b0 b1 b2 W → G v0 v1 v2 b0 b1 b2 W) → R) (sub : ∀ (v0 v1 v2 : α) (b0 b1 b2 : Nat) (W : World), H v0 v1 v2 b0 b1 b2 W → G v0 v1 v2 b0 b1 b2 W) : R := main sub
theorem share4_VVVV {R : Prop} {α : Type} (H : α → α → α → α → World → Prop) {G : α → α → α → α → World → Prop} (main : (∀ (v0 v1 v2 v3 : α) (W : World), H v0 v1 v2 v3 W → G v0 v1 v2 v3 W) → R) (sub : ∀ (v0 v1 v2 v3 : α) (W : World), H v0 v1 v2 v3 W → G v0 v1 v2 v3 W) : R := main sub
theorem share4_VVVVN {R : Prop} {α : Type} (H : α → α → α → α → Nat → World → Prop) {G : α → α → α → α → Nat → World → Prop} (main : (∀ (v0 v1 v2 v3 : α) (b0 : Nat) (W : World), H v0 v1 v2 v3 b0 W → G v0 v1 v2 v3 b0 W) → R) (sub : ∀ (v0 v1 v2 v3 : α) (b0 : Nat) (W : World), H v0 v1 v2 v3 b0 W → G v0 v1 v2 v3 b0 W) : R := main sub
theorem share4_VVVVNN {R : Prop} {α : Type} (H : α → α → α → α → Nat → Nat → World → Prop) {G : α → α → α → α → Nat → Nat → World → Prop} (main : (∀ (v0 v1 v2 v3 : α) (b0 b1 : Nat) (W : World), H v0 v1 v2 v3 b0 b1 W → G v0 v1 v2 v3 b0 b1 W) → R) (sub : ∀ (v0 v1 v2 v3 : α) (b0 b1 : Nat) (W : World), H v0 v1 v2 v3 b0 b1 W → G v0 v1 v2 v3 b0 b1 W) : R := main sub
theorem share4_VVVVNNN {R : Prop} {α : Type} (H : α → α → α → α → Nat → Nat → Nat → World → Prop) {G : α → α → α → α → Nat → Nat → Nat → World → Prop} (main : (∀ (v0 v1 v2 v3 : α) (b0 b1 b2 : Nat) (W : World), H v0 v1 v2 v3 b0 b1 b2 W → G v0 v1 v2 v3 b0 b1 b2 W) → R) (sub : ∀ (v0 v1 v2 v3 : α) (b0 b1 b2 : Nat) (W : World), H v0 v1 v2 v3 b0 b1 b2 W → G v0 v1 v2 v3 b0 b1 b2 W) : R := main sub
end Go.Proofs.Ytegdflikeoiaaaa

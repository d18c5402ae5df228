/-
  More shares, for regions with several blocks that nothing orders (late3). A list of spans is the same as itself.
  Shares for late4 (region.py).
-/
import Derived.Test.YtkkljbbgaogifaaShare
import Derived.Test.YtkkljbbgaogifaaAwk2
set_option linter.unusedVariables false
set_option linter.unusedSimpArgs false
namespace Go.Proofs.Ytkkljbbgaogifaa
open Go.RowKit

theorem share0_3 {R : Prop} (H : Nat → Nat → Nat → World → Prop) {G : Nat → Nat → Nat → World → Prop} (main : (∀ (b0 b1 b2 : Nat) (W : World), H b0 b1 b2 W → G b0 b1 b2 W) → R) (sub : ∀ (b0 b1 b2 : Nat) (W : World), H b0 b1 b2 W → G b0 b1 b2 W) : R := main sub
theorem share0_4 {R : Prop} (H : Nat → Nat → Nat → Nat → World → Prop) {G : Nat → Nat → Nat → Nat → World → Prop} (main : (∀ (b0 b1 b2 b3 : Nat) (W : World), H b0 b1 b2 b3 W → G b0 b1 b2 b3 W) → R) (sub : ∀ (b0 b1 b2 b3 : Nat) (W : World), H b0 b1 b2 b3 W → G b0 b1 b2 b3 W) : R := main sub
theorem share1_1 {R : Prop} (H : Int → Nat → World → Prop) {G : Int → Nat → World → Prop} (main : (∀ (n0 : Int) (b0 : Nat) (W : World), H n0 b0 W → G n0 b0 W) → R) (sub : ∀ (n0 : Int) (b0 : Nat) (W : World), H n0 b0 W → G n0 b0 W) : R := main sub
theorem share1_2 {R : Prop} (H : Int → Nat → Nat → World → Prop) {G : Int → Nat → Nat → World → Prop} (main : (∀ (n0 : Int) (b0 b1 : Nat) (W : World), H n0 b0 b1 W → G n0 b0 b1 W) → R) (sub : ∀ (n0 : Int) (b0 b1 : Nat) (W : World), H n0 b0 b1 W → G n0 b0 b1 W) : R := main sub
theorem share1_3 {R : Prop} (H : Int → Nat → Nat → Nat → World → Prop) {G : Int → Nat → Nat → Nat → World → Prop} (main : (∀ (n0 : Int) (b0 b1 b2 : Nat) (W : World), H n0 b0 b1 b2 W → G n0 b0 b1 b2 W) → R) (sub : ∀ (n0 : Int) (b0 b1 b2 : Nat) (W : World), H n0 b0 b1 b2 W → G n0 b0 b1 b2 W) : R := main sub
theorem share1_4 {R : Prop} (H : Int → Nat → Nat → Nat → Nat → World → Prop) {G : Int → Nat → Nat → Nat → Nat → World → Prop} (main : (∀ (n0 : Int) (b0 b1 b2 b3 : Nat) (W : World), H n0 b0 b1 b2 b3 W → G n0 b0 b1 b2 b3 W) → R) (sub : ∀ (n0 : Int) (b0 b1 b2 b3 : Nat) (W : World), H n0 b0 b1 b2 b3 W → G n0 b0 b1 b2 b3 W) : R := main sub

set_option maxRecDepth 100000 in
set_option maxHeartbeats 1000000 in
theorem ksamespans_yes (u v : Value) (n : Nat) (x y : Nat → Int) (w : World) (hu : PairsAt w u n x y) (hv : PairsAt w v n x y) :
    Calls Try.prog 48 #[u, v] w fun e w' => e = .returned (.bool true) ∧ Below w.heap.size w w' := by
  obtain ⟨aU, cU, rfl, hU1, hU2, hU3⟩ := hu
  obtain ⟨aV, cV, rfl, hV1, hV2, hV3⟩ := hv
  have HU := Lib.hid hU3
  have HV := Lib.hid hV3
  clear hU3 hV3
  go_enter Try.func48, Try.ntmps48
  go_wp2_with fail
  go_loopw [5] (fun i wr => ∃ k : Nat, k ≤ n ∧ i = .int .i64 k ∧ Below w.heap.size w wr) (fun i _ => n - (intOf i).toNat)
  case atStart => exact ⟨0, Nat.zero_le _, rfl, Below.refl _ _⟩
  case round =>
    obtain ⟨k, hk, rfl, hB⟩ := hrel
    by_cases hlt2 : k < n
    · obtain ⟨b, o, ha, hc⟩ := HU.out (by omega)
      subst ha
      obtain ⟨b2, o2, ha2, hc2⟩ := HV.out (by omega)
      subst ha2
      have a0 := cell_later hB (hc k hlt2).1
      have a1 := cell_later hB (hc k hlt2).2
      have d0 := cell_later hB (hc2 k hlt2).1
      have d1 := cell_later hB (hc2 k hlt2).2
      clear hc hc2 HU HV
      generalize x k = p at a0 d0
      generalize y k = q at a1 d1
      have z0 := World.block_lt_of_cell? _ _ a0
      have z1 := World.block_lt_of_cell? _ _ d0
      go_upto_region 6 with fail
      refine region_still (by kernel_rfl) (by kernel_rfl) (fun U hU => ?_)
      replace hB := hB.drew
      have b0 : U.cell? ⟨b, o + k * 2, none⟩ = some (.int .i64 p) := by rw [← hU]; exact a0
      have b1 : U.cell? ⟨b, o + k * 2 + 1, none⟩ = some (.int .i64 q) := by rw [← hU]; exact a1
      have e0 : U.cell? ⟨b2, o2 + k * 2, none⟩ = some (.int .i64 p) := by rw [← hU]; exact d0
      have e1 : U.cell? ⟨b2, o2 + k * 2 + 1, none⟩ = some (.int .i64 q) := by rw [← hU]; exact d1
      have y0 := World.block_lt_of_cell? _ _ b0
      have y1 := World.block_lt_of_cell? _ _ e0
      rw [hU] at hB
      clear hU a0 a1 d0 d1 z0 z1
      repeat still_step
      refine wpStill_nil ?_
      go_wp2
      go_roundw
      case rel => exact ⟨k + 1, by omega, by go_num, hB⟩
      case measure => simp [intOf]; omega
    · go_wp2
      go_ret
      exact ⟨rfl, hB⟩
theorem row_set_type {w : World} {base size n : Nat} {e t : TypeId} {v : Value} {xs : List Value} (h : w.ownsRow base e size v n xs) {b : Nat} {C : Array Value} (k : Blk w b C t) (ht : t ≠ e) (j : Nat) (u : Value) : (w.setCell ⟨b, j, none⟩ u).ownsRow base e size v n xs := by
  obtain ⟨h1, h2⟩ := h
  rcases h2 with h2 | ⟨g, cap, cur, hv, hg, hc, r⟩
  · exact ⟨h1, .inl h2⟩
  · refine ⟨h1, .inr ⟨g, cap, cur, hv, hg, (Below.heap_setCell w _ _ g ?_).trans hc, r⟩⟩
    intro e1
    simp only at e1
    subst e1
    have q : some (Obj.cells C t (0, 0)) = some (Obj.cells cur e (0, 0)) := k.symm.trans hc
    simp only [Option.some.injEq, Obj.cells.injEq] at q
    exact ht q.2.1
end Go.Proofs.Ytkkljbbgaogifaa

namespace Go.Proofs.Ytkkljbbgaogifaa
open Go.RowKit

theorem share4_0 {R : Prop} (H : World → Prop) {G : World → Prop} (main : (∀ (W : World), H W → G W) → R) (sub : ∀ (W : World), H W → G W) : R := main sub
theorem share4_N {R : Prop} (H : Nat → World → Prop) {G : Nat → World → Prop} (main : (∀ (b0 : Nat) (W : World), H b0 W → G b0 W) → R) (sub : ∀ (b0 : Nat) (W : World), H b0 W → G b0 W) : R := main sub
theorem share4_NN {R : Prop} (H : Nat → Nat → World → Prop) {G : Nat → Nat → World → Prop} (main : (∀ (b0 b1 : Nat) (W : World), H b0 b1 W → G b0 b1 W) → R) (sub : ∀ (b0 b1 : Nat) (W : World), H b0 b1 W → G b0 b1 W) : R := main sub
theorem share4_NNN {R : Prop} (H : Nat → Nat → Nat → World → Prop) {G : Nat → Nat → Nat → World → Prop} (main : (∀ (b0 b1 b2 : Nat) (W : World), H b0 b1 b2 W → G b0 b1 b2 W) → R) (sub : ∀ (b0 b1 b2 : Nat) (W : World), H b0 b1 b2 W → G b0 b1 b2 W) : R := main sub
theorem share4_V {R : Prop} (H : Value → World → Prop) {G : Value → World → Prop} (main : (∀ (v0 : Value) (W : World), H v0 W → G v0 W) → R) (sub : ∀ (v0 : Value) (W : World), H v0 W → G v0 W) : R := main sub
theorem share4_VN {R : Prop} (H : Value → Nat → World → Prop) {G : Value → Nat → World → Prop} (main : (∀ (v0 : Value) (b0 : Nat) (W : World), H v0 b0 W → G v0 b0 W) → R) (sub : ∀ (v0 : Value) (b0 : Nat) (W : World), H v0 b0 W → G v0 b0 W) : R := main sub
theorem share4_VNN {R : Prop} (H : Value → Nat → Nat → World → Prop) {G : Value → Nat → Nat → World → Prop} (main : (∀ (v0 : Value) (b0 b1 : Nat) (W : World), H v0 b0 b1 W → G v0 b0 b1 W) → R) (sub : ∀ (v0 : Value) (b0 b1 : Nat) (W : World), H v0 b0 b1 W → G v0 b0 b1 W) : R := main sub
theorem share4_VNNN {R : Prop} (H : Value → Nat → Nat → Nat → World → Prop) {G : Value → Nat → Nat → Nat → World → Prop} (main : (∀ (v0 : Value) (b0 b1 b2 : Nat) (W : World), H v0 b0 b1 b2 W → G v0 b0 b1 b2 W) → R) (sub : ∀ (v0 : Value) (b0 b1 b2 : Nat) (W : World), H v0 b0 b1 b2 W → G v0 b0 b1 b2 W) : R := main sub
theorem share4_VV {R : Prop} (H : Value → Value → World → Prop) {G : Value → Value → World → Prop} (main : (∀ (v0 v1 : Value) (W : World), H v0 v1 W → G v0 v1 W) → R) (sub : ∀ (v0 v1 : Value) (W : World), H v0 v1 W → G v0 v1 W) : R := main sub
theorem share4_VVN {R : Prop} (H : Value → Value → Nat → World → Prop) {G : Value → Value → Nat → World → Prop} (main : (∀ (v0 v1 : Value) (b0 : Nat) (W : World), H v0 v1 b0 W → G v0 v1 b0 W) → R) (sub : ∀ (v0 v1 : Value) (b0 : Nat) (W : World), H v0 v1 b0 W → G v0 v1 b0 W) : R := main sub
theorem share4_VVNN {R : Prop} (H : Value → Value → Nat → Nat → World → Prop) {G : Value → Value → Nat → Nat → World → Prop} (main : (∀ (v0 v1 : Value) (b0 b1 : Nat) (W : World), H v0 v1 b0 b1 W → G v0 v1 b0 b1 W) → R) (sub : ∀ (v0 v1 : Value) (b0 b1 : Nat) (W : World), H v0 v1 b0 b1 W → G v0 v1 b0 b1 W) : R := main sub
theorem share4_VVNNN {R : Prop} (H : Value → Value → Nat → Nat → Nat → World → Prop) {G : Value → Value → Nat → Nat → Nat → World → Prop} (main : (∀ (v0 v1 : Value) (b0 b1 b2 : Nat) (W : World), H v0 v1 b0 b1 b2 W → G v0 v1 b0 b1 b2 W) → R) (sub : ∀ (v0 v1 : Value) (b0 b1 b2 : Nat) (W : World), H v0 v1 b0 b1 b2 W → G v0 v1 b0 b1 b2 W) : R := main sub
theorem share4_VVV {R : Prop} (H : Value → Value → Value → World → Prop) {G : Value → Value → Value → World → Prop} (main : (∀ (v0 v1 v2 : Value) (W : World), H v0 v1 v2 W → G v0 v1 v2 W) → R) (sub : ∀ (v0 v1 v2 : Value) (W : World), H v0 v1 v2 W → G v0 v1 v2 W) : R := main sub
theorem share4_VVVN {R : Prop} (H : Value → Value → Value → Nat → World → Prop) {G : Value → Value → Value → Nat → World → Prop} (main : (∀ (v0 v1 v2 : Value) (b0 : Nat) (W : World), H v0 v1 v2 b0 W → G v0 v1 v2 b0 W) → R) (sub : ∀ (v0 v1 v2 : Value) (b0 : Nat) (W : World), H v0 v1 v2 b0 W → G v0 v1 v2 b0 W) : R := main sub
theorem share4_VVVNN {R : Prop} (H : Value → Value → Value → Nat → Nat → World → Prop) {G : Value → Value → Value → Nat → Nat → World → Prop} (main : (∀ (v0 v1 v2 : Value) (b0 b1 : Nat) (W : World), H v0 v1 v2 b0 b1 W → G v0 v1 v2 b0 b1 W) → R) (sub : ∀ (v0 v1 v2 : Value) (b0 b1 : Nat) (W : World), H v0 v1 v2 b0 b1 W → G v0 v1 v2 b0 b1 W) : R := main sub
theorem share4_VVVNNN {R : Prop} (H : Value → Value → Value → Nat → Nat → Nat → World → Prop) {G : Value → Value → Value → Nat → Nat → Nat → World → Prop} (main : (∀ (v0 v1 v2 : Value) (b0 b1 b2 : Nat) (W : World), H v0 v1 v2 b0 b1 b2 W → G v0 v1 v2 b0 b1 b2 W) → R) (sub : ∀ (v0 v1 v2 : Value) (b0 b1 b2 : Nat) (W : World), H v0 v1 v2 b0 b1 b2 W → G v0 v1 v2 b0 b1 b2 W) : R := main sub
theorem share4_VVVV {R : Prop} (H : Value → Value → Value → Value → World → Prop) {G : Value → Value → Value → Value → World → Prop} (main : (∀ (v0 v1 v2 v3 : Value) (W : World), H v0 v1 v2 v3 W → G v0 v1 v2 v3 W) → R) (sub : ∀ (v0 v1 v2 v3 : Value) (W : World), H v0 v1 v2 v3 W → G v0 v1 v2 v3 W) : R := main sub
theorem share4_VVVVN {R : Prop} (H : Value → Value → Value → Value → Nat → World → Prop) {G : Value → Value → Value → Value → Nat → World → Prop} (main : (∀ (v0 v1 v2 v3 : Value) (b0 : Nat) (W : World), H v0 v1 v2 v3 b0 W → G v0 v1 v2 v3 b0 W) → R) (sub : ∀ (v0 v1 v2 v3 : Value) (b0 : Nat) (W : World), H v0 v1 v2 v3 b0 W → G v0 v1 v2 v3 b0 W) : R := main sub
theorem share4_VVVVNN {R : Prop} (H : Value → Value → Value → Value → Nat → Nat → World → Prop) {G : Value → Value → Value → Value → Nat → Nat → World → Prop} (main : (∀ (v0 v1 v2 v3 : Value) (b0 b1 : Nat) (W : World), H v0 v1 v2 v3 b0 b1 W → G v0 v1 v2 v3 b0 b1 W) → R) (sub : ∀ (v0 v1 v2 v3 : Value) (b0 b1 : Nat) (W : World), H v0 v1 v2 v3 b0 b1 W → G v0 v1 v2 v3 b0 b1 W) : R := main sub
theorem share4_VVVVNNN {R : Prop} (H : Value → Value → Value → Value → Nat → Nat → Nat → World → Prop) {G : Value → Value → Value → Value → Nat → Nat → Nat → World → Prop} (main : (∀ (v0 v1 v2 v3 : Value) (b0 b1 b2 : Nat) (W : World), H v0 v1 v2 v3 b0 b1 b2 W → G v0 v1 v2 v3 b0 b1 b2 W) → R) (sub : ∀ (v0 v1 v2 v3 : Value) (b0 b1 b2 : Nat) (W : World), H v0 v1 v2 v3 b0 b1 b2 W → G v0 v1 v2 v3 b0 b1 b2 W) : R := main sub
end Go.Proofs.Ytkkljbbgaogifaa

/-
  SameSpans (sastrugikit), of two lists that say the same.
-/
import Derived.Test.YtpeogfcfiabcfaaTail
import Derived.Test.YtpeogfcfiabcfaaTab
import Derived.Test.YtpeogfcfiabcfaaRow
set_option linter.unusedVariables false
set_option linter.unusedSimpArgs false
namespace Go.Proofs.Ytpeogfcfiabcfaa
open Go.RowKit

set_option maxRecDepth 100000 in
set_option maxHeartbeats 1000000 in
theorem same_ok (n : Nat) (A B C D : Nat → Int) (hAC : ∀ i, i < n → A i = C i ∧ B i = D i) (v v2 : Value) (w : World) (h1 : SpansAt w v n A B) (h2 : SpansAt w v2 n C D) :
    Calls Try.prog 40 #[v, v2] w fun e w' => e = .returned (.bool true) ∧ Below w.heap.size w w' := by
  obtain ⟨a, c, rfl, p1, p2, p3⟩ := h1
  obtain ⟨a2, c2, rfl, q1, q2, q3⟩ := h2
  have HA := Lib.hid p3
  have HC := Lib.hid q3
  have HE := Lib.hid hAC
  clear p3 q3 hAC
  have e0 : ((n : Int) != n) = false := by simp
  go_enter Try.func40, Try.ntmps40
  go_wp2_with fail
  go_loopw [5] (fun i wr => ∃ k : Nat, k ≤ n ∧ i = .int .i64 k ∧ Below w.heap.size w wr) (fun i _ => n - (intOf i).toNat)
  case atStart => exact ⟨0, Nat.zero_le _, rfl, Below.refl _ _⟩
  case round =>
    obtain ⟨k, hk, rfl, hB⟩ := hrel
    by_cases hlt : k < n
    · obtain ⟨b, o, ha, hc⟩ := HA.out (by omega)
      obtain ⟨b2, o2, ha2, hc2⟩ := HC.out (by omega)
      subst ha ha2
      have hcA : AtC w b o n 2 (spC A B) := hc
      have hcC : AtC w b2 o2 n 2 (spC C D) := hc2
      clear hc hc2
      obtain ⟨x0, x1⟩ := hcA.c2 hlt rfl
      obtain ⟨y0, y1⟩ := hcC.c2 hlt rfl
      obtain ⟨g1, g2⟩ := HE.out k hlt
      rw [g1] at x0
      rw [g2] at x1
      clear g1 g2 hcA hcC
      have hltI : (k : Int) < n := by omega
      generalize C k = x at x0 y0
      generalize D k = y at x1 y1
      have HV := Lib.hid (fun (W : World) (hW : Below w.heap.size w W) => And.intro (cell_later hW x0) (And.intro (cell_later hW x1) (And.intro (cell_later hW y0) (cell_later hW y1))))
      clear x0 x1 y0 y1
      go_upto_region 6 with fail
      refine wp_region_held_drew (S := (fun wx => Below w.heap.size w wx)) (by kernel_rfl) ?_ (fun hH => ?_)
      · (try dsimp only); (exact hB.drew)
      refine tkY 0 (some 17) ?_ ?_ ?_
      rotate_left
      · intro w _; go_simp; (try with_reducible rfl)
      (try simp only [cq])
      refine tkY 1 (some 18) ?_ ?_ ?_
      rotate_left
      · intro w _; go_simp; (try with_reducible rfl)
      (try simp only [cq])
      refine tkY 2 (some 19) ?_ ?_ ?_
      rotate_left
      · intro w hS0; (try dsimp only at hS0); obtain ⟨r1, r2, r3, r4⟩ := HV.out _ hS0; have y3 := World.block_lt_of_cell? _ _ r1; have y4 := World.block_lt_of_cell? _ _ r3;go_simp; (try with_reducible rfl)
      (try simp only [cq])
      refine tkY 3 (some 20) ?_ ?_ ?_
      rotate_left
      · intro w hS0; (try dsimp only at hS0); obtain ⟨r1, r2, r3, r4⟩ := HV.out _ hS0; have y3 := World.block_lt_of_cell? _ _ r1; have y4 := World.block_lt_of_cell? _ _ r3;go_simp; (try with_reducible rfl)
      (try simp only [cq])
      refine tkY 4 (some 21) ?_ ?_ ?_
      rotate_left
      · intro w _; go_simp; (try with_reducible rfl)
      (try simp only [cq])
      refine tkY 5 (some 22) ?_ ?_ ?_
      rotate_left
      · intro w _; go_simp; (try with_reducible rfl)
      (try simp only [cq])
      refine tkY 6 (some 23) ?_ ?_ ?_
      rotate_left
      · intro w hS0; (try dsimp only at hS0); obtain ⟨r1, r2, r3, r4⟩ := HV.out _ hS0; have y3 := World.block_lt_of_cell? _ _ r1; have y4 := World.block_lt_of_cell? _ _ r3;go_simp; (try with_reducible rfl)
      (try simp only [cq])
      refine tkY 7 (some 24) ?_ ?_ ?_
      rotate_left
      · intro w hS0; (try dsimp only at hS0); obtain ⟨r1, r2, r3, r4⟩ := HV.out _ hS0; have y3 := World.block_lt_of_cell? _ _ r1; have y4 := World.block_lt_of_cell? _ _ r3;go_simp; (try with_reducible rfl)
      (try simp only [cq])
      refine tkY 8 (some 25) ?_ ?_ ?_
      rotate_left
      · intro w _; go_simp; (try with_reducible rfl)
      (try simp only [cq])
      refine wpAnyH_done (by kernel_rfl) ?_ _
      (try dsimp only [Act.put])
      (try simp only [cq])
      clear hB
      go_wp2
      go_roundw
      case rel => exact ⟨k + 1, by omega, by go_num, hH⟩
      case measure => simp [intOf]; omega
    · obtain rfl : k = n := by omega
      go_wp2
      go_ret
      exact ⟨rfl, hB⟩
end Go.Proofs.Ytpeogfcfiabcfaa

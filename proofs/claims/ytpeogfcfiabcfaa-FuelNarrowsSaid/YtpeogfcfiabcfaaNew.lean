/-
  The kit's NewSeed.
-/
import Derived.Test.YtpeogfcfiabcfaaTail
import Derived.Test.YtpeogfcfiabcfaaSeed
set_option linter.unusedVariables false
set_option linter.unusedSimpArgs false
namespace Go.Proofs.Ytpeogfcfiabcfaa
open Go.RowKit

theorem Drawn.below {bs : Nat} {w v x : World} (h : Below w.heap.size w v) (g : Drawn bs v x) (hB : w.heap.size ≤ bs) : Below w.heap.size w x :=
  h.trans ⟨g.2.os, g.2.tape, g.2.output, g.2.size, fun k hk => g.2.block k (Nat.lt_of_lt_of_le hk h.size) (by simp; omega)⟩

set_option maxRecDepth 100000 in
set_option maxHeartbeats 2000000 in
theorem newseed_any (b o n cap : Nat) (a : Option Addr) (ha : 0 < n → a = some ⟨b, o, none⟩) (hn : n ≤ 9223372036854775807) (w : World) (hb0 : 0 < n → b < w.heap.size) (hc : ∀ i, i < n → ∃ x, w.cell? ⟨b, o + i, none⟩ = some (.int .i64 x)) :
    Calls Try.prog 15 #[.slice a n cap] w fun e w' => e = .returned (.pointer (some ⟨w.heap.size, 0, none⟩)) ∧ SeedAt w.heap.size w' ∧ Below w.heap.size w w' := by
  have HC := Lib.hid hc
  have HA := Lib.hid ha
  have HB := Lib.hid hb0
  clear hc ha hb0
  go_enter Try.func15, Try.ntmps15
  go_wp2_with fail
  go_loopw [4] (fun i wr => ∃ k : Nat, k ≤ n ∧ i = .int .i64 k ∧ SeedAt w.heap.size wr ∧ Below w.heap.size w wr) (fun i _ => n - (intOf i).toNat)
  case atStart => exact ⟨0, Nat.zero_le _, rfl, ⟨1, Blk.new _ _ _⟩, by (repeat (first | exact Below.refl _ _ | assumption | refine Below.drew ?_ | refine Below.drewN ?_ _ | refine blT ?_ | refine blU ?_))⟩
  case round =>
    obtain ⟨k, hk, rfl, ⟨u, hS⟩, hB⟩ := hrel
    by_cases hlt2 : k < n
    · obtain ⟨x, hx⟩ := HC.out k hlt2
      have hx2 := cell_later hB hx
      have hs := HA.out (by omega)
      have hb := HB.out (by omega)
      clear HA hx
      subst hs
      go_wp2_with fail
      have hS0 : SeedAt w.heap.size wr := ⟨u, hS⟩
      have hsz := hB.size
      refine wp_region_held_drew (S := (fun w' => SeedAt w.heap.size w' ∧ w'.cell? ⟨b, o + k, none⟩ = some (.int .i64 x) ∧ Below w.heap.size w w')) (by kernel_rfl) ?_ (fun hH => ?_)
      · (try dsimp only); (exact ⟨hS0, hx2, by (repeat (first | exact Below.refl _ _ | assumption | refine Below.drew ?_ | refine Below.drewN ?_ _ | refine blT ?_ | refine blU ?_))⟩)
      refine tkY 0 (some 13) ?_ ?_ ?_
      rotate_left
      · intro w _; go_simp; (try with_reducible rfl)
      (try simp only [cq])
      refine tkY 1 (some 14) ?_ ?_ ?_
      rotate_left
      · intro w _; go_simp; (try with_reducible rfl)
      (try simp only [cq])
      refine tkY 2 (some 15) ?_ ?_ ?_
      rotate_left
      · intro w hS0; (try dsimp only at hS0); obtain ⟨_, n0, _⟩ := hS0;go_simp; (try with_reducible rfl)
      (try simp only [cq])
      refine tkY 3 (some 16) ?_ ?_ ?_
      rotate_left
      · intro w hS0; (try dsimp only at hS0); obtain ⟨_, n0, _⟩ := hS0;go_simp; (try with_reducible rfl)
      (try simp only [cq])
      refine tkY 6 (some 19) ?_ ?_ ?_
      rotate_left
      · intro w _; go_simp; (try with_reducible rfl)
      (try simp only [cq])
      refine tkY 7 (some 20) ?_ ?_ ?_
      rotate_left
      · intro w _; go_simp; (try with_reducible rfl)
      (try simp only [cq])
      refine tkY 8 (some 21) ?_ ?_ ?_
      rotate_left
      · intro w hS0; (try dsimp only at hS0); obtain ⟨_, n0, _⟩ := hS0;go_simp; (try with_reducible rfl)
      (try simp only [cq])
      refine tkY 9 (some 22) ?_ ?_ ?_
      rotate_left
      · intro w hS0; (try dsimp only at hS0); obtain ⟨_, n0, _⟩ := hS0;go_simp; (try with_reducible rfl)
      (try simp only [cq])
      refine tkY 10 (some 23) ?_ ?_ ?_
      rotate_left
      · intro w _; go_simp; (try with_reducible rfl)
      (try simp only [cq])
      refine wpAnyH_ready (rs := [4]) (by kernel_rfl) (by simp) ?_
      refine arc1 (some 17) fun K hK => ?_
      obtain ⟨⟨u1, hU⟩, hX, hBB⟩ := hH; have c0 := hU.cell1
      go_simp
      refine hK.out _ _ ?_ (fun hH => ?_)
      · exact ⟨⟨u1, hU⟩, hX, hBB⟩
      clear hK K
      (try simp only [cq])
      refine tkY 5 (some 18) ?_ ?_ ?_
      rotate_left
      · intro w _; go_simp; (try with_reducible rfl)
      (try simp only [cq])
      refine tkY 11 (some 24) ?_ ?_ ?_
      rotate_left
      · intro w _; go_simp; (try with_reducible rfl)
      (try simp only [cq])
      refine tkY 12 (some 25) ?_ ?_ ?_
      rotate_left
      · intro w _; go_simp; (try with_reducible rfl)
      (try simp only [cq])
      refine tkY 13 (some 26) ?_ ?_ ?_
      rotate_left
      · intro w hS0; (try dsimp only at hS0); obtain ⟨_, n0, _⟩ := hS0;go_simp; (try with_reducible rfl)
      (try simp only [cq])
      refine tkY 14 (some 27) ?_ ?_ ?_
      rotate_left
      · intro w hS0; (try dsimp only at hS0); obtain ⟨_, n0, _⟩ := hS0;go_simp; (try with_reducible rfl)
      (try simp only [cq])
      refine wpAnyH_ready (rs := [15]) (by kernel_rfl) (by simp) ?_
      refine arc1 none fun K hK => ?_
      obtain ⟨⟨u2, hU2⟩, hX2, hBB2⟩ := hH; have cc0 := hU2.cell1; have ff0 := hU2.free 0
      go_simp
      refine hK.out _ _ ?_ (fun hH => ?_)
      · exact ⟨⟨_, hU2.set 0 _⟩, ((World.cell?_of_block (Below.heap_setCell _ _ _ _ (by simp; omega))).trans hX2), hBB2.setCell (Nat.le_refl _) _⟩
      clear hK K
      (try simp only [cq])
      refine wpAnyH_done (by kernel_rfl) ?_ _
      (try dsimp only [Act.put])
      (try simp only [cq])
      have hSS := hH.1
      have hBB := hH.2.2
      clear hH
      go_wp2_with fail
      refine (next_in w.heap.size _ hSS).mono ?_
      rintro e w2 ⟨v, rfl, v0, v1, hd⟩
      have hB2 := Drawn.below hBB hd (Nat.le_refl _)
      have hS2 := hd.seed
      clear hd
      go_wp2
      go_roundw
      case rel => exact ⟨k + 1, by omega, by go_num, hS2, hB2⟩
      case measure => simp [intOf]; omega
    · go_wp2
      go_ret
      exact ⟨rfl, ⟨u, hS⟩, hB⟩

def NumsAt (w : World) (a : Option Addr) (n : Nat) : Prop := n ≤ 9223372036854775807 ∧ (0 < n → ∃ b o, a = some ⟨b, o, none⟩ ∧ b < w.heap.size ∧ ∀ i, i < n → ∃ x, w.cell? ⟨b, o + i, none⟩ = some (.int .i64 x))
theorem newseed_at (a : Option Addr) (n cap : Nat) (w : World) (h : NumsAt w a n) :
    Calls Try.prog 15 #[.slice a n cap] w fun e w' => e = .returned (.pointer (some ⟨w.heap.size, 0, none⟩)) ∧ SeedAt w.heap.size w' ∧ Below w.heap.size w w' := by
  obtain ⟨hn, h⟩ := h
  by_cases h0 : 0 < n
  · obtain ⟨b, o, ha, hb, hc⟩ := h h0
    exact newseed_any b o n cap a (fun _ => ha) hn w (fun _ => hb) hc
  · exact newseed_any 0 0 n cap a (fun q => absurd q h0) hn w (fun q => absurd q h0) (fun i hi => by omega)
end Go.Proofs.Ytpeogfcfiabcfaa

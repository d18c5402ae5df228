/-
  checkRows (package fuel), exact for any book.
-/
import Derived.Test.YtpeogfcfiabcfaaTail
import Derived.Test.YtpeogfcfiabcfaaAcl
set_option linter.unusedVariables false
set_option linter.unusedSimpArgs false
namespace Go.Proofs.Ytpeogfcfiabcfaa
open Go.RowKit

def eRows (n : Nat) (A : Nat → Ac) (m : Nat) (M : Nat → Mv) : Int := orE (eSm n) (orE (eAcs n A) (eL 30 m (fun i => eMv (M i) n)))
theorem first_rows (b cap : Nat) (n : Nat) (A : Nat → Ac) (m : Nat) (M : Nat → Mv) (w : World) (h0 : w.cell? ⟨b, 0, none⟩ = some (.int .i64 (eSm n))) (h1 : w.cell? ⟨b, 1, none⟩ = some (.int .i64 (eAcs n A))) (h2 : w.cell? ⟨b, 2, none⟩ = some (.int .i64 (eL 30 m (fun i => eMv (M i) n)))) :
    Calls Try.prog 77 #[.slice (some ⟨b, 0, none⟩) 3 cap] w fun e w' => e = .returned (.int .i64 (eRows n A m M)) ∧ w = w' := first_three b cap _ _ _ w h0 h1 h2

set_option maxRecDepth 100000 in
set_option maxHeartbeats 2000000 in
theorem rows_any (n : Nat) (A : Nat → Ac) (m : Nat) (M : Nat → Mv) (vA vM : Value) (w : World) (hA : AcsAt w vA n A) (hM : MvsAt w vM m M) (hs : NmOk n A) :
    Calls Try.prog 124 #[.agg #[vA, vM]] w fun e w' => e = .returned (.int .i64 (eRows n A m M)) ∧ Below w.heap.size w w' := by
  have HA := Lib.hid (fun (W : World) (h : Below w.heap.size w W) => accs_any A n vA W (hA.later h) hs)
  have HM := Lib.hid (fun (W : World) (h : Below w.heap.size w W) => hM.later h)
  obtain ⟨aA, cA, hvA, h1, h2, h3⟩ := hA
  obtain ⟨aM, cM, hvM, g1, g2, g3⟩ := hM
  clear h3 g3
  subst hvA hvM
  have HF := Lib.hid (fun (W : World) (h : Below w.heap.size w W) (hb : W.cell? ⟨w.heap.size, 0, none⟩ = some (.slice aA n cA)) => lmove_any (.pointer (some ⟨w.heap.size, 0, none⟩)) (fun i => eMv (M i) n) (.slice aM m cM) m M W (HM.out W h) (fun i hi W2 hW2 => move_one i (M i) w.heap.size aA n cA (by omega) W2 (cell_later hW2 hb)))
  clear HM
  have jX := Blk.new w #[.slice aA n cA, .slice aM m cM] 44
  have jB : Below w.heap.size w (w.alloc (.cells #[.slice aA n cA, .slice aM m cM] 44)) := by (repeat (first | exact Below.refl _ _ | assumption | refine Below.drew ?_ | refine Below.drewN ?_ _ | refine blT ?_ | refine blU ?_))
  go_enter Try.func124, Try.ntmps124
  go_wp2_with fail
  refine wp_region_held_drew (S := (fun w' => Blk w' w.heap.size #[.slice aA n cA, .slice aM m cM] 44 ∧ Below w.heap.size w w')) (by kernel_rfl) ?_ (fun hH => ?_)
  · (try dsimp only); (exact ⟨jX.drew, jB.drew⟩)
  refine tkY 0 (some 3) ?_ ?_ ?_
  rotate_left
  · intro w hS0; (try dsimp only at hS0); obtain ⟨k1, k2⟩ := hS0; obtain ⟨c0, c1⟩ := k1.c2;go_simp; (try with_reducible rfl)
  (try simp only [cq])
  refine tkY 1 (some 4) ?_ ?_ ?_
  rotate_left
  · intro w hS0; (try dsimp only at hS0); obtain ⟨k1, k2⟩ := hS0; obtain ⟨c0, c1⟩ := k1.c2;go_simp; (try with_reducible rfl)
  (try simp only [cq])
  refine tkY 2 (some 5) ?_ ?_ ?_
  rotate_left
  · intro w hS0; (try dsimp only at hS0); obtain ⟨k1, k2⟩ := hS0; obtain ⟨c0, c1⟩ := k1.c2;go_simp; (try with_reducible rfl)
  (try simp only [cq])
  refine tkY 4 (some 7) ?_ ?_ ?_
  rotate_left
  · intro w hS0; (try dsimp only at hS0); obtain ⟨k1, k2⟩ := hS0; obtain ⟨c0, c1⟩ := k1.c2;go_simp; (try with_reducible rfl)
  (try simp only [cq])
  refine tkY 5 (some 8) ?_ ?_ ?_
  rotate_left
  · intro w hS0; (try dsimp only at hS0); obtain ⟨k1, k2⟩ := hS0; obtain ⟨c0, c1⟩ := k1.c2;go_simp; (try with_reducible rfl)
  (try simp only [cq])
  refine tkY 7 (some 10) ?_ ?_ ?_
  rotate_left
  · intro w hS0; (try dsimp only at hS0); obtain ⟨k1, k2⟩ := hS0; obtain ⟨c0, c1⟩ := k1.c2;go_simp; (try with_reducible rfl)
  (try simp only [cq])
  refine tkY 8 (some 11) ?_ ?_ ?_
  rotate_left
  · intro w hS0; (try dsimp only at hS0); obtain ⟨k1, k2⟩ := hS0; obtain ⟨c0, c1⟩ := k1.c2;go_simp; (try with_reducible rfl)
  (try simp only [cq])
  refine tkY 9 (some 12) ?_ ?_ ?_
  rotate_left
  · intro w hS0; (try dsimp only at hS0); obtain ⟨k1, k2⟩ := hS0; obtain ⟨c0, c1⟩ := k1.c2;go_simp; (try with_reducible rfl)
  (try simp only [cq])
  refine wpAnyH_ready (rs := [3]) (by kernel_rfl) (by simp) ?_
  refine arc1 (some 6) fun K hK => ?_
  go_simp
  (refine (some_any _ _).mono ?_; rintro e w' ⟨rfl, rfl⟩)
  refine hK.out _ _ ?_ (fun hH => ?_)
  · (first | exact hH | exact ⟨hH.1.call hb, bwS hH.2 (Nat.le_refl _) hb⟩)
  clear hK K
  (try simp only [cq])
  refine wpAnyH_ready (rs := [6]) (by kernel_rfl) (by simp) ?_
  refine arc1 (some 9) fun K hK => ?_
  go_simp
  (refine (HA.out _ hH.2).mono ?_; rintro e w' ⟨rfl, hb⟩)
  refine hK.out _ _ ?_ (fun hH => ?_)
  · (first | exact hH | exact ⟨hH.1.call hb, bwS hH.2 (Nat.le_refl _) hb⟩)
  clear hK K
  (try simp only [cq])
  refine wpAnyH_ready (rs := [10]) (by kernel_rfl) (by simp) ?_
  refine arc1 (some 13) fun K hK => ?_
  go_simp
  (refine (HF.out _ hH.2 hH.1.c2.1).mono ?_; rintro e w' ⟨rfl, hb⟩)
  refine hK.out _ _ ?_ (fun hH => ?_)
  · (first | exact hH | exact ⟨hH.1.call hb, bwS hH.2 (Nat.le_refl _) hb⟩)
  clear hK K
  (try simp only [cq])
  refine wpAnyH_ready (rs := [11]) (by kernel_rfl) (by simp) ?_
  refine arc1 (some 14) fun K hK => ?_
  go_simp
  refine hK.out _ _ ?_ (fun hH => ?_)
  · exact ⟨hH.1.alloc _, bwA hH.2 (Nat.le_refl _) _⟩
  clear hK K
  (try simp only [cq])
  refine wpAnyH_ready (rs := [12]) (by kernel_rfl) (by simp) ?_
  refine arc1 (some 15) fun K hK => ?_
  go_simp
  (refine (first_rows _ _ n A m M _ (by first | (simp; done) | (go_simp; done) | (go_keep; done)) (by first | (simp; done) | (go_simp; done) | (go_keep; done)) (by first | (simp; done) | (go_simp; done) | (go_keep; done))).mono ?_; rintro e w' ⟨rfl, rfl⟩)
  refine hK.out _ _ ?_ (fun hH => ?_)
  · (first | exact hH | exact ⟨hH.1.call hb, bwS hH.2 (Nat.le_refl _) hb⟩)
  clear hK K
  (try simp only [cq])
  refine tkY 13 (some 2) ?_ ?_ ?_
  rotate_left
  · intro w _; go_simp; (try with_reducible rfl)
  (try simp only [cq])
  refine wpAnyH_done (by kernel_rfl) ?_ _
  (try dsimp only [Act.put])
  (try simp only [cq])
  have hBB : Below w.heap.size w _ := hH.2
  clear hH
  go_wp2
  go_ret
  exact ⟨rfl, hBB⟩
end Go.Proofs.Ytpeogfcfiabcfaa

/-
  checkTank (package fuel), exact for any tank.
-/
import Derived.Test.YtpeogfcfiabcfaaTail
import Derived.Test.YtpeogfcfiabcfaaTnk
set_option linter.unusedVariables false
set_option linter.unusedSimpArgs false
namespace Go.Proofs.Ytpeogfcfiabcfaa
open Go.RowKit

def eTn3 (n k : Nat) : Int := orE (eLs n 2) (orE (eM n 40) (eF ((k : Int) == n)))
def eTank (n k : Nat) (H L : Nat → Int) : Int := if eTn3 n k = 0 then eL 40 n (eTk H L) else eTn3 n k
theorem first_tn (b cap n k : Nat) (w : World) (h0 : w.cell? ⟨b, 0, none⟩ = some (.int .i64 (eLs n 2))) (h1 : w.cell? ⟨b, 1, none⟩ = some (.int .i64 (eM n 40))) (h2 : w.cell? ⟨b, 2, none⟩ = some (.int .i64 (eF ((k : Int) == n)))) :
    Calls Try.prog 77 #[.slice (some ⟨b, 0, none⟩) 3 cap] w fun e w' => e = .returned (.int .i64 (eTn3 n k)) ∧ w = w' := first_three b cap _ _ _ w h0 h1 h2
theorem eTn3_ok {n k : Nat} (h : eTn3 n k = 0) : 2 ≤ n ∧ n ≤ 40 ∧ k = n := by
  unfold eTn3 orE eLs eM eF at h
  by_cases h1 : (n : Int) < 2
  · rw [if_pos h1] at h; simp at h
  · rw [if_neg h1, if_pos rfl] at h
    by_cases h2 : (40 : Int) < n
    · rw [if_pos h2] at h; simp at h
    · rw [if_neg h2, if_pos rfl] at h
      by_cases h3 : (k : Int) = n
      · omega
      · rw [show ((k : Int) == n) = false by simpa using h3] at h; simp at h

set_option maxRecDepth 100000 in
set_option maxHeartbeats 2000000 in
theorem tank_any (n k : Nat) (H L : Nat → Int) (vH vL : Value) (w : World) (hH : IntsAt w vH n H) (hL : IntsAt w vL k L) :
    Calls Try.prog 69 #[.agg #[vH, vL]] w fun e w' => e = .returned (.int .i64 (eTank n k H L)) ∧ Below w.heap.size w w' := by
  have HA := Lib.hid (fun (W : World) (h : Below w.heap.size w W) => hH.later h)
  have HB := Lib.hid (fun (W : World) (h : Below w.heap.size w W) => hL.later h)
  obtain ⟨aH, cH, hvH, h1, h2, h3⟩ := hH
  obtain ⟨aL, cL, hvL, g1, g2, g3⟩ := hL
  subst hvH hvL
  have HH := Lib.hid h3
  have HL := Lib.hid g3
  clear h3 g3
  have jX := Blk.new w #[.slice aH n cH, .slice aL k cL] 24
  have jB : Below w.heap.size w (w.alloc (.cells #[.slice aH n cH, .slice aL k cL] 24)) := by (repeat (first | exact Below.refl _ _ | assumption | refine Below.drew ?_ | refine Below.drewN ?_ _ | refine blT ?_ | refine blU ?_))
  go_enter Try.func69, Try.ntmps69
  go_wp2_with fail
  refine wp_region_held_drew (S := (fun w' => Blk w' w.heap.size #[.slice aH n cH, .slice aL k cL] 24 ∧ Below w.heap.size w w')) (by kernel_rfl) ?_ (fun hH => ?_)
  · (try dsimp only); (exact ⟨jX.drew, jB.drew⟩)
  refine tkY 0 (some 4) ?_ ?_ ?_
  rotate_left
  · intro w hS0; (try dsimp only at hS0); obtain ⟨k1, k2⟩ := hS0; obtain ⟨c0, c1⟩ := k1.c2;go_simp; (try with_reducible rfl)
  (try simp only [cq])
  refine tkY 1 (some 5) ?_ ?_ ?_
  rotate_left
  · intro w hS0; (try dsimp only at hS0); obtain ⟨k1, k2⟩ := hS0; obtain ⟨c0, c1⟩ := k1.c2;go_simp; (try with_reducible rfl)
  (try simp only [cq])
  refine tkY 2 (some 6) ?_ ?_ ?_
  rotate_left
  · intro w hS0; (try dsimp only at hS0); obtain ⟨k1, k2⟩ := hS0; obtain ⟨c0, c1⟩ := k1.c2;go_simp; (try with_reducible rfl)
  (try simp only [cq])
  refine tkY 4 (some 8) ?_ ?_ ?_
  rotate_left
  · intro w hS0; (try dsimp only at hS0); obtain ⟨k1, k2⟩ := hS0; obtain ⟨c0, c1⟩ := k1.c2;go_simp; (try with_reducible rfl)
  (try simp only [cq])
  refine tkY 5 (some 9) ?_ ?_ ?_
  rotate_left
  · intro w hS0; (try dsimp only at hS0); obtain ⟨k1, k2⟩ := hS0; obtain ⟨c0, c1⟩ := k1.c2;go_simp; (try with_reducible rfl)
  (try simp only [cq])
  refine tkY 6 (some 10) ?_ ?_ ?_
  rotate_left
  · intro w hS0; (try dsimp only at hS0); obtain ⟨k1, k2⟩ := hS0; obtain ⟨c0, c1⟩ := k1.c2;go_simp; (try with_reducible rfl)
  (try simp only [cq])
  refine tkY 8 (some 12) ?_ ?_ ?_
  rotate_left
  · intro w hS0; (try dsimp only at hS0); obtain ⟨k1, k2⟩ := hS0; obtain ⟨c0, c1⟩ := k1.c2;go_simp; (try with_reducible rfl)
  (try simp only [cq])
  refine tkY 9 (some 13) ?_ ?_ ?_
  rotate_left
  · intro w hS0; (try dsimp only at hS0); obtain ⟨k1, k2⟩ := hS0; obtain ⟨c0, c1⟩ := k1.c2;go_simp; (try with_reducible rfl)
  (try simp only [cq])
  refine tkY 10 (some 14) ?_ ?_ ?_
  rotate_left
  · intro w hS0; (try dsimp only at hS0); obtain ⟨k1, k2⟩ := hS0; obtain ⟨c0, c1⟩ := k1.c2;go_simp; (try with_reducible rfl)
  (try simp only [cq])
  refine tkY 11 (some 15) ?_ ?_ ?_
  rotate_left
  · intro w hS0; (try dsimp only at hS0); obtain ⟨k1, k2⟩ := hS0; obtain ⟨c0, c1⟩ := k1.c2;go_simp; (try with_reducible rfl)
  (try simp only [cq])
  refine tkY 12 (some 16) ?_ ?_ ?_
  rotate_left
  · intro w hS0; (try dsimp only at hS0); obtain ⟨k1, k2⟩ := hS0; obtain ⟨c0, c1⟩ := k1.c2;go_simp; (try with_reducible rfl)
  (try simp only [cq])
  refine tkY 13 (some 17) ?_ ?_ ?_
  rotate_left
  · intro w hS0; (try dsimp only at hS0); obtain ⟨k1, k2⟩ := hS0; obtain ⟨c0, c1⟩ := k1.c2;go_simp; (try with_reducible rfl)
  (try simp only [cq])
  refine tkY 14 (some 18) ?_ ?_ ?_
  rotate_left
  · intro w _; go_simp; (try with_reducible rfl)
  (try simp only [cq])
  refine wpAnyH_ready (rs := [3]) (by kernel_rfl) (by simp) ?_
  refine arc1 (some 7) fun K hK => ?_
  go_simp
  (refine (leastc_any _ _ _).mono ?_; rintro e w' ⟨rfl, rfl⟩)
  refine hK.out _ _ ?_ (fun hH => ?_)
  · (exact hH)
  clear hK K
  (try simp only [cq])
  refine wpAnyH_ready (rs := [7]) (by kernel_rfl) (by simp) ?_
  refine arc1 (some 11) fun K hK => ?_
  go_simp
  (refine (most_any _ _ _).mono ?_; rintro e w' ⟨rfl, rfl⟩)
  refine hK.out _ _ ?_ (fun hH => ?_)
  · (exact hH)
  clear hK K
  (try simp only [cq])
  refine wpAnyH_ready (rs := [15]) (by kernel_rfl) (by simp) ?_
  refine arc1 (some 19) fun K hK => ?_
  go_simp
  (refine (form_any _ _).mono ?_; rintro e w' ⟨rfl, rfl⟩)
  refine hK.out _ _ ?_ (fun hH => ?_)
  · (exact hH)
  clear hK K
  (try simp only [cq])
  refine wpAnyH_ready (rs := [16]) (by kernel_rfl) (by simp) ?_
  refine arc1 (some 20) fun K hK => ?_
  go_simp
  refine hK.out _ _ ?_ (fun hH => ?_)
  · exact ⟨hH.1.alloc _, bwA hH.2 (Nat.le_refl _) _⟩
  clear hK K
  (try simp only [cq])
  refine wpAnyH_ready (rs := [17]) (by kernel_rfl) (by simp) ?_
  refine arc1 (some 21) fun K hK => ?_
  go_simp
  (refine (first_tn _ _ n k _ (by first | (simp; done) | (go_simp; done) | (go_keep; done)) (by first | (simp; done) | (go_simp; done) | (go_keep; done)) (by first | (simp; done) | (go_simp; done) | (go_keep; done))).mono ?_; rintro e w' ⟨rfl, rfl⟩)
  refine hK.out _ _ ?_ (fun hH => ?_)
  · (exact hH)
  clear hK K
  (try simp only [cq])
  refine tkY 18 (some 3) ?_ ?_ ?_
  rotate_left
  · intro w _; go_simp; (try with_reducible rfl)
  (try simp only [cq])
  refine wpAnyH_done (by kernel_rfl) ?_ _
  (try dsimp only [Act.put])
  (try simp only [cq])
  clear jX jB
  obtain ⟨jX, jB⟩ := hH
  obtain ⟨U, hU⟩ : ∃ U, Blk.wld jX = U := ⟨_, rfl⟩
  simp only [Blk.wld] at hU
  rw [hU] at jX jB ⊢
  clear hU
  by_cases hz : eTn3 n k = 0
  · obtain ⟨n2, n40, hk⟩ := eTn3_ok hz
    have hE : eTank n k H L = eL 40 n (eTk H L) := by unfold eTank; rw [if_pos hz]
    rw [hz]
    replace hk := hk.symm
    subst hk
    have hE2 := Lib.hid hE
    obtain ⟨b, o, ha, hc⟩ := HH.out (by omega)
    obtain ⟨b2, o2, ha2, hc2⟩ := HL.out (by omega)
    subst ha ha2
    have HC1 : Hid (AtC w b o n 1 (inC H)) := hc
    have HC2 : Hid (AtC w b2 o2 n 1 (inC L)) := hc2
    clear hc hc2 hz hE
    obtain ⟨c0, c1⟩ := jX.c2
    have zX := jX.lt
    have HT := Lib.hid (ltank_any (.pointer (some ⟨w.heap.size, 0, none⟩)) (eTk H L) _ n H _ (HA.out _ jB) (fun i hi W hW => tank_one H L w.heap.size b o cH b2 o2 cL n i hi (by omega) W (cell_later hW c0) (cell_later hW c1) (HC1.out.later (jB.trans (hW.mono jB.size))) (HC2.out.later (jB.trans (hW.mono jB.size)))))
    go_wp2_with fail
    refine HT.out.mono ?_
    rintro e w2 ⟨rfl, hb⟩
    have hBB := bwS jB (Nat.le_refl _) hb
    clear hb jB
    go_wp2
    go_ret
    exact ⟨by rw [hE2.out]; rfl, hBB⟩
  · have hE2 := Lib.hid (show eTank n k H L = eTn3 n k by unfold eTank; rw [if_neg hz])
    have hz2 : (eTn3 n k != 0) = true := by simpa using hz
    clear hz
    go_wp2
    go_ret
    exact ⟨by rw [hE2.out]; rfl, jB⟩
end Go.Proofs.Ytpeogfcfiabcfaa

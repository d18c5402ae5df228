/-
  awake: the law's own look at one book and one tank.
-/
import Derived.Test.YtpeogfcfiabcfaaTail
import Derived.Test.YtpeogfcfiabcfaaAwN
import Derived.Test.YtpeogfcfiabcfaaSam
import Derived.Test.YtpeogfcfiabcfaaShare
set_option linter.unusedVariables false
set_option linter.unusedSimpArgs false
namespace Go.Proofs.Ytpeogfcfiabcfaa
open Go.RowKit

set_option maxRecDepth 100000 in
set_option maxHeartbeats 2000000 in
theorem awake_any (w : World) : Calls Try.prog 14 #[] w fun e w' => e = .returned (.bool true) ∧ Below w.heap.size w w' := by
  go_enter Try.func14, Try.ntmps14
  go_wp2_with fail
  refine (book0 _).mono ?_
  rintro e w1 ⟨b, b2, rfl, hA, hM, hb⟩
  have jB : Below w.heap.size w w1 := hb
  clear hb
  have HL := losses_ok 3 bkA 1 bkM (.slice (some ⟨b, 0, none⟩) 3 3) (.slice (some ⟨b2, 0, none⟩) 1 1) w1 (by omega) (by omega) (by
    intro i hi
    obtain rfl : i = 0 := by omega
    decide) ⟨_, _, rfl, by omega, by omega, fun _ => ⟨b, 0, rfl, hA⟩⟩ ⟨_, _, rfl, by omega, by omega, fun _ => ⟨b2, 0, rfl, hM⟩⟩ aw_nm aw_rows aw_ok aw_cut _ _ rfl rfl
  rw [aw_t0, aw_t1] at HL
  clear hA hM
  go_wp2_with fail
  refine HL.mono ?_
  rintro e w2 ⟨v, rfl, hr, hb⟩
  have jS : SpansAt w2 v 3 _ _ := lat_of_row hr (by omega) (fun i _ => rfl)
  replace jB := jB.trans (hb.mono jB.size)
  clear hb hr HL
  have jT := Blk.new w2 #[.int .i64 0, .int .i64 30] 26
  replace jS := jS.later (Below.alloc (Below.refl _ w2) (Nat.le_refl _) (.cells #[.int .i64 0, .int .i64 30] 26))
  have zT : w.heap.size ≤ w2.heap.size := jB.size
  replace jB := bwA jB (Nat.le_refl _) (.cells #[.int .i64 0, .int .i64 30] 26)
  go_wp2_with fail
  refine (tank0 _).mono ?_
  rintro e w3 ⟨c, c2, rfl, hH, hL, hb⟩
  replace jT := jT.call hb
  replace jS := jS.later hb
  replace jB := bwS jB (Nat.le_refl _) hb
  clear hb
  obtain ⟨bT, hbT⟩ : ∃ x, w2.heap.size = x := ⟨_, rfl⟩
  rw [hbT] at jT zT ⊢
  clear hbT
  have zT2 := jT.lt
  go_wp2_with fail
  refine (span0_any 500 1500 _).mono ?_
  rintro e w4 ⟨rfl, hb⟩
  replace jT := jT.call hb
  replace jS := jS.later hb
  replace hH := hH.later hb
  replace hL := hL.later hb
  replace jB := bwS jB (Nat.le_refl _) hb
  clear hb
  have HVl := volume_ok 3 tkH tkL 500 1500 c 0 3 c2 0 3 w4 aw_tk aw_et aw_es (by decide) (by decide) (by decide) (by omega) (by omega) (by omega) (by omega) hH hL
  clear hH hL
  go_wp2_with fail
  refine HVl.mono ?_
  rintro e w5 ⟨k0, k1, hk0, hk1, rfl, hb⟩
  rw [aw_p0 hk0, aw_p1 hk1]
  replace jT := jT.call hb
  replace jS := jS.later hb
  replace jB := bwS jB (Nat.le_refl _) hb
  clear hb HVl hk0 hk1
  have zV := jT.lt
  have jV := Blk.new w5 #[.int .i64 2500, .int .i64 8500] 26
  replace jT := jT.alloc (.cells #[.int .i64 2500, .int .i64 8500] 26)
  replace jS := jS.later (Below.alloc (Below.refl _ w5) (Nat.le_refl _) (.cells #[.int .i64 2500, .int .i64 8500] 26))
  replace jB := bwA jB (Nat.le_refl _) (.cells #[.int .i64 2500, .int .i64 8500] 26)
  go_wp2_with fail
  obtain ⟨bV, hbV⟩ : ∃ x, w5.heap.size = x := ⟨_, rfl⟩
  obtain ⟨W, hW⟩ : ∃ V, Blk.wld jV = V := ⟨_, rfl⟩
  simp only [Blk.wld] at hW
  rw [hW] at jT jV jS jB ⊢
  rw [hbV] at jV zV ⊢
  clear hW hbV
  have HS := Lib.hid (fun (V : World) (x : Nat) (hB : Below w.heap.size w V) (h : SpansAt V v 3 _ _) (h2 : Blk V x #[.int .i64 0, .int .i64 10, .int .i64 0, .int .i64 30, .int .i64 0, .int .i64 0] 26) => same_ok 3 _ _ awLo awHi aw_s v _ V h (sp3 h2))
  clear zV zT2
  refine wp_region_held_drew (S := (fun wx => Blk wx bT #[.int .i64 0, .int .i64 30] 26 ∧ Blk wx bV #[.int .i64 2500, .int .i64 8500] 26 ∧ SpansAt wx v 3 (fun i => (knA (flE 3 bkA 1 bkM) (flN 3 1) (2 ^ (3 + 1))).1 (2 * 3 + 1 + i)) (fun i => (knA (flE 3 bkA 1 bkM) (flN 3 1) (2 ^ (3 + 1))).2 (2 * 3 + 1 + i)) ∧ Below w.heap.size w wx)) (by kernel_rfl) ?_ (fun hH => ?_)
  · (try dsimp only); (exact ⟨jT.drew, jV.drew, jS, jB.drew⟩)
  refine tkY 0 (some 18) ?_ ?_ ?_
  rotate_left
  · intro w _; go_simp; (try with_reducible rfl)
  (try simp only [cq])
  refine tkY 1 (some 19) ?_ ?_ ?_
  rotate_left
  · intro w _; go_simp; (try with_reducible rfl)
  (try simp only [cq])
  refine tkY 2 (some 20) ?_ ?_ ?_
  rotate_left
  · intro w _; go_simp; (try with_reducible rfl)
  (try simp only [cq])
  refine tkY 3 (some 21) ?_ ?_ ?_
  rotate_left
  · intro w _; go_simp; (try with_reducible rfl)
  (try simp only [cq])
  refine tkY 4 (some 22) ?_ ?_ ?_
  rotate_left
  · intro w _; go_simp; (try with_reducible rfl)
  (try simp only [cq])
  refine tkY 5 (some 23) ?_ ?_ ?_
  rotate_left
  · intro w _; go_simp; (try with_reducible rfl)
  (try simp only [cq])
  refine tkY 6 (some 24) ?_ ?_ ?_
  rotate_left
  · intro w _; go_simp; (try with_reducible rfl)
  (try simp only [cq])
  refine tkY 7 (some 25) ?_ ?_ ?_
  rotate_left
  · intro w hS0; (try dsimp only at hS0); obtain ⟨kT, kV, _, _⟩ := hS0; obtain ⟨c0, c1⟩ := kT.c2; obtain ⟨q0, q1⟩ := kV.c2; have y1 := kT.lt; have y2 := kV.lt;go_simp; (try with_reducible rfl)
  (try simp only [cq])
  refine wpAnyH_ready (rs := [8]) (by kernel_rfl) (by simp) ?_
  refine arc1 (some 26) fun K hK => ?_
  go_simp
  (refine (span0_any _ _ _).mono ?_; rintro e w' ⟨rfl, hb⟩)
  refine hK.out _ _ ?_ ?_
  · (exact ⟨hH.1.call hb, hH.2.1.call hb, hH.2.2.1.later hb, bwS hH.2.2.2 (Nat.le_refl _) hb⟩)
  (try clear hH); (try clear hb)
  intro hH
  clear hK K
  (try simp only [cq])
  refine tkY 9 (some 27) ?_ ?_ ?_
  rotate_left
  · intro w _; go_simp; (try with_reducible rfl)
  (try simp only [cq])
  refine tkY 10 (some 28) ?_ ?_ ?_
  rotate_left
  · intro w _; go_simp; (try with_reducible rfl)
  (try simp only [cq])
  refine tkY 11 (some 29) ?_ ?_ ?_
  rotate_left
  · intro w _; go_simp; (try with_reducible rfl)
  (try simp only [cq])
  refine tkY 12 (some 30) ?_ ?_ ?_
  rotate_left
  · intro w hS0; (try dsimp only at hS0); obtain ⟨kT, kV, _, _⟩ := hS0; obtain ⟨c0, c1⟩ := kT.c2; obtain ⟨q0, q1⟩ := kV.c2; have y1 := kT.lt; have y2 := kV.lt;go_simp; (try with_reducible rfl)
  (try simp only [cq])
  refine wpAnyH_ready (rs := [13]) (by kernel_rfl) (by simp) ?_
  refine arc1 (some 31) fun K hK => ?_
  go_simp
  (refine (span0_any _ _ _).mono ?_; rintro e w' ⟨rfl, hb⟩)
  refine hK.out _ _ ?_ ?_
  · (exact ⟨hH.1.call hb, hH.2.1.call hb, hH.2.2.1.later hb, bwS hH.2.2.2 (Nat.le_refl _) hb⟩)
  (try clear hH); (try clear hb)
  intro hH
  clear hK K
  (try simp only [cq])
  refine tkY 14 (some 32) ?_ ?_ ?_
  rotate_left
  · intro w _; go_simp; (try with_reducible rfl)
  (try simp only [cq])
  refine tkY 15 (some 33) ?_ ?_ ?_
  rotate_left
  · intro w _; go_simp; (try with_reducible rfl)
  (try simp only [cq])
  refine tkY 16 (some 34) ?_ ?_ ?_
  rotate_left
  · intro w _; go_simp; (try with_reducible rfl)
  (try simp only [cq])
  refine tkY 17 (some 35) ?_ ?_ ?_
  rotate_left
  · intro w _; go_simp; (try with_reducible rfl)
  (try simp only [cq])
  refine tkY 20 (some 38) ?_ ?_ ?_
  rotate_left
  · intro w _; go_simp; (try with_reducible rfl)
  (try simp only [cq])
  refine wpAnyH_ready (rs := [18]) (by kernel_rfl) (by simp) ?_
  refine arc1 (some 36) fun K hK => ?_
  go_simp
  (refine (span0_any _ _ _).mono ?_; rintro e w' ⟨rfl, hb⟩)
  refine hK.out _ _ ?_ ?_
  · (exact ⟨hH.1.call hb, hH.2.1.call hb, hH.2.2.1.later hb, bwS hH.2.2.2 (Nat.le_refl _) hb⟩)
  (try clear hH); (try clear hb)
  intro hH
  clear hK K
  (try simp only [cq])
  refine wpAnyH_ready (rs := [19]) (by kernel_rfl) (by simp) ?_
  refine arc1 (some 37) fun K hK => ?_
  go_simp
  (refine (span0_any _ _ _).mono ?_; rintro e w' ⟨rfl, hb⟩)
  refine hK.out _ _ ?_ ?_
  · (exact ⟨hH.1.call hb, hH.2.1.call hb, hH.2.2.1.later hb, bwS hH.2.2.2 (Nat.le_refl _) hb⟩)
  (try clear hH); (try clear hb)
  intro hH
  clear hK K
  (try simp only [cq])
  refine wpAnyH_ready (rs := [21]) (by kernel_rfl) (by simp) ?_
  refine arc1 (some 39) fun K hK => ?_
  go_simp
  first | refine oA hK ?_ (fun hH hA => ?_) | refine oD hK ?_ (fun hH hA => ?_)
  · exact ⟨hH.1.alloc _, hH.2.1.alloc _, hH.2.2.1.later (Below.alloc (Below.refl _ _) (Nat.le_refl _) _), bwA hH.2.2.2 (Nat.le_refl _) _⟩
  clear hK K
  (try simp only [cq])
  refine wpAnyH_ready (rs := [22]) (by kernel_rfl) (by simp) ?_
  refine arc1 (some 40) fun K hK => ?_
  go_simp
  (refine (HS.out _ _ hH.2.2.2 hH.2.2.1 hA).mono ?_; rintro e w' ⟨rfl, hb⟩)
  refine hK.out _ _ ?_ ?_
  · (exact ⟨hH.1.call hb, hH.2.1.call hb, hH.2.2.1.later hb, bwS hH.2.2.2 (Nat.le_refl _) hb⟩)
  (try clear hH); (try clear hb)
  intro hH
  clear hK K
  (try simp only [cq])
  refine tkY 23 (some 41) ?_ ?_ ?_
  rotate_left
  · intro w _; go_simp; (try with_reducible rfl)
  (try simp only [cq])
  refine tkY 24 (some 0) ?_ ?_ ?_
  rotate_left
  · intro w _; go_simp; (try with_reducible rfl)
  (try simp only [cq])
  refine wpAnyH_done (by kernel_rfl) ?_ _
  (try dsimp only [Act.put])
  (try simp only [cq])
  go_wp2
  go_ret
  exact ⟨rfl, hH.2.2.2⟩
end Go.Proofs.Ytpeogfcfiabcfaa

/-
  The kit's InnerIce.
-/
import Derived.Test.YtkldjaofgdklbaaTail
import Derived.Test.YtkldjaofgdklbaaKit
set_option linter.unusedVariables false
set_option linter.unusedSimpArgs false
namespace Go.Proofs.Ytkldjaofgdklbaa
open Go.RowKit

set_option maxRecDepth 100000 in
set_option maxHeartbeats 8000000 in
theorem innerice_in (x : Ic) (bs : Nat) (w : World) (hs : SeedAt bs w) (hx : x.Kit) :
    Calls Try.prog 26 #[.pointer (some ⟨bs, 0, none⟩), .agg #[.int .i64 x.b0, .int .i64 x.b1, .int .i64 x.w0, .int .i64 x.w1, .int .i64 x.q0, .int .i64 x.q1, .int .i64 x.s0, .int .i64 x.s1]] w fun e w' => ∃ y : Ic, e = .returned (.agg #[.int .i64 y.b0, .int .i64 y.b1, .int .i64 y.w0, .int .i64 y.w1, .int .i64 y.q0, .int .i64 y.q1, .int .i64 y.s0, .int .i64 y.s1]) ∧ y.Sub x ∧ y.Kit ∧ Drawn bs w w' := by
  have hbs : bs < w.heap.size := hs.choose_spec.lt
  obtain ⟨⟨hb0, hb1, hb2⟩, ⟨hw0, hw1, hw2⟩, ⟨hq0, hq1, hq2⟩, ⟨hs0, hs1, hs2⟩⟩ := hx
  have HIb : Hid (∀ W, SeedAt bs W → Calls Try.prog 71 #[.pointer (some ⟨bs, 0, none⟩), .agg #[.int .i64 x.b0, .int .i64 x.b1]] W fun e w' => ∃ u v, e = .returned (.agg #[.int .i64 u, .int .i64 v]) ∧ x.b0 ≤ u ∧ u ≤ v ∧ v ≤ x.b1 ∧ Drawn bs W w') := fun W hW => kpart_in x.b0 x.b1 bs W hW (by omega) (by omega) (by omega)
  have HIw : Hid (∀ W, SeedAt bs W → Calls Try.prog 71 #[.pointer (some ⟨bs, 0, none⟩), .agg #[.int .i64 x.w0, .int .i64 x.w1]] W fun e w' => ∃ u v, e = .returned (.agg #[.int .i64 u, .int .i64 v]) ∧ x.w0 ≤ u ∧ u ≤ v ∧ v ≤ x.w1 ∧ Drawn bs W w') := fun W hW => kpart_in x.w0 x.w1 bs W hW (by omega) (by omega) (by omega)
  have HIq : Hid (∀ W, SeedAt bs W → Calls Try.prog 71 #[.pointer (some ⟨bs, 0, none⟩), .agg #[.int .i64 x.q0, .int .i64 x.q1]] W fun e w' => ∃ u v, e = .returned (.agg #[.int .i64 u, .int .i64 v]) ∧ x.q0 ≤ u ∧ u ≤ v ∧ v ≤ x.q1 ∧ Drawn bs W w') := fun W hW => kpart_in x.q0 x.q1 bs W hW (by omega) (by omega) (by omega)
  have HIs : Hid (∀ W, SeedAt bs W → Calls Try.prog 71 #[.pointer (some ⟨bs, 0, none⟩), .agg #[.int .i64 x.s0, .int .i64 x.s1]] W fun e w' => ∃ u v, e = .returned (.agg #[.int .i64 u, .int .i64 v]) ∧ x.s0 ≤ u ∧ u ≤ v ∧ v ≤ x.s1 ∧ Drawn bs W w') := fun W hW => kpart_in x.s0 x.s1 bs W hW (by omega) (by omega) (by omega)
  have HK := Lib.hid (show ∀ vb0 vb1 vw0 vw1 vq0 vq1 vs0 vs1 : Int, x.b0 ≤ vb0 → vb0 ≤ vb1 → vb1 ≤ x.b1 → x.w0 ≤ vw0 → vw0 ≤ vw1 → vw1 ≤ x.w1 → x.q0 ≤ vq0 → vq0 ≤ vq1 → vq1 ≤ x.q1 → x.s0 ≤ vs0 → vs0 ≤ vs1 → vs1 ≤ x.s1 → Ic.Sub ⟨vb0, vb1, vw0, vw1, vq0, vq1, vs0, vs1⟩ x ∧ Ic.Kit ⟨vb0, vb1, vw0, vw1, vq0, vq1, vs0, vs1⟩ from by
    intro vb0 vb1 vw0 vw1 vq0 vq1 vs0 vs1 g1 g2 g3 g4 g5 g6 g7 g8 g9 g10 g11 g12
    refine ⟨⟨g1, g3, g4, g6, g7, g9, g10, g12⟩, ⟨by simp only; omega, by simp only; omega, by simp only; omega, by simp only; omega⟩⟩)
  clear hb0 hb1 hb2 hw0 hw1 hw2 hq0 hq1 hq2 hs0 hs1 hs2
  have hA0 := (Drawn.alloc hs (.cells #[.int .i64 x.b0, .int .i64 x.b1, .int .i64 x.w0, .int .i64 x.w1, .int .i64 x.q0, .int .i64 x.q1, .int .i64 x.s0, .int .i64 x.s1] 28)).new (.cells #[.int .i64 0, .int .i64 0, .int .i64 0, .int .i64 0, .int .i64 0, .int .i64 0, .int .i64 0, .int .i64 0] 28)
  have hX0 := (Blk.new w #[.int .i64 x.b0, .int .i64 x.b1, .int .i64 x.w0, .int .i64 x.w1, .int .i64 x.q0, .int .i64 x.q1, .int .i64 x.s0, .int .i64 x.s1] 28).alloc (.cells #[.int .i64 0, .int .i64 0, .int .i64 0, .int .i64 0, .int .i64 0, .int .i64 0, .int .i64 0, .int .i64 0] 28)
  have hR0 : Eight _ _ _ := ⟨_, _, _, _, _, _, _, _, Blk.new1 w (.cells #[.int .i64 x.b0, .int .i64 x.b1, .int .i64 x.w0, .int .i64 x.w1, .int .i64 x.q0, .int .i64 x.q1, .int .i64 x.s0, .int .i64 x.s1] 28) #[.int .i64 0, .int .i64 0, .int .i64 0, .int .i64 0, .int .i64 0, .int .i64 0, .int .i64 0, .int .i64 0] 28⟩
  go_enter Try.func26, Try.ntmps26
  go_wp2_with fail
  (
 refine wp_region_held_drew (S := (fun w' => Drawn bs w w' ∧ Blk w' w.heap.size #[.int .i64 x.b0, .int .i64 x.b1, .int .i64 x.w0, .int .i64 x.w1, .int .i64 x.q0, .int .i64 x.q1, .int .i64 x.s0, .int .i64 x.s1] 28 ∧ Eight w' (w.heap.size + 1) 28)) (by kernel_rfl) ?_ (fun hH => ?_)
 · (try dsimp only); (exact ⟨hA0.trans (Drawn.drew hA0.seed), hX0, hR0⟩)
 refine tkY 0 (some 5) ?_ ?_ ?_
 rotate_left
 · intro w _; go_simp; (try with_reducible rfl)
 (try simp only [cq])
 refine tkY 1 (some 6) ?_ ?_ ?_
 rotate_left
 · intro w hS0; (try dsimp only at hS0); obtain ⟨_, kS, _⟩ := hS0; obtain ⟨c0, c1, c2, c3, c4, c5, c6, c7⟩ := kS.c8;go_simp; (try with_reducible rfl)
 (try simp only [cq])
 refine tkY 2 (some 7) ?_ ?_ ?_
 rotate_left
 · intro w hS0; (try dsimp only at hS0); obtain ⟨_, kS, _⟩ := hS0; obtain ⟨c0, c1, c2, c3, c4, c5, c6, c7⟩ := kS.c8;go_simp; (try with_reducible rfl)
 (try simp only [cq])
 refine tkY 4 (some 9) ?_ ?_ ?_
 rotate_left
 · intro w _; go_simp; (try with_reducible rfl)
 (try simp only [cq])
 refine tkY 5 (some 10) ?_ ?_ ?_
 rotate_left
 · intro w hS0; (try dsimp only at hS0); obtain ⟨_, kS, _⟩ := hS0; obtain ⟨c0, c1, c2, c3, c4, c5, c6, c7⟩ := kS.c8;go_simp; (try with_reducible rfl)
 (try simp only [cq])
 refine tkY 6 (some 11) ?_ ?_ ?_
 rotate_left
 · intro w hS0; (try dsimp only at hS0); obtain ⟨_, kS, _⟩ := hS0; obtain ⟨c0, c1, c2, c3, c4, c5, c6, c7⟩ := kS.c8;go_simp; (try with_reducible rfl)
 (try simp only [cq])
 refine tkY 8 (some 13) ?_ ?_ ?_
 rotate_left
 · intro w _; go_simp; (try with_reducible rfl)
 (try simp only [cq])
 refine tkY 9 (some 14) ?_ ?_ ?_
 rotate_left
 · intro w hS0; (try dsimp only at hS0); obtain ⟨_, kS, _⟩ := hS0; obtain ⟨c0, c1, c2, c3, c4, c5, c6, c7⟩ := kS.c8;go_simp; (try with_reducible rfl)
 (try simp only [cq])
 refine tkY 10 (some 15) ?_ ?_ ?_
 rotate_left
 · intro w hS0; (try dsimp only at hS0); obtain ⟨_, kS, _⟩ := hS0; obtain ⟨c0, c1, c2, c3, c4, c5, c6, c7⟩ := kS.c8;go_simp; (try with_reducible rfl)
 (try simp only [cq])
 refine tkY 12 (some 17) ?_ ?_ ?_
 rotate_left
 · intro w _; go_simp; (try with_reducible rfl)
 (try simp only [cq])
 refine tkY 13 (some 18) ?_ ?_ ?_
 rotate_left
 · intro w hS0; (try dsimp only at hS0); obtain ⟨_, kS, _⟩ := hS0; obtain ⟨c0, c1, c2, c3, c4, c5, c6, c7⟩ := kS.c8;go_simp; (try with_reducible rfl)
 (try simp only [cq])
 refine tkY 14 (some 19) ?_ ?_ ?_
 rotate_left
 · intro w hS0; (try dsimp only at hS0); obtain ⟨_, kS, _⟩ := hS0; obtain ⟨c0, c1, c2, c3, c4, c5, c6, c7⟩ := kS.c8;go_simp; (try with_reducible rfl)
 (try simp only [cq])
 refine wpAnyH_ready (rs := [3]) (by kernel_rfl) (by simp) ?_
 refine arc1 (some 8) fun K hK => ?_
 go_simp
 (refine (HIb.out _ hH.1.seed).mono ?_; rintro e w' ⟨vb0, vb1, rfl, b1, b2, b3, hd⟩)
 refine hK.out _ _ ?_ (fun hH => ?_)
 · (exact ⟨hH.1.trans hd, hd.blk hH.2.1 (by omega), hH.2.2.drawn hd (by omega)⟩)
 clear hK K
 (try simp only [cq])
 refine wpAnyH_ready (rs := [7]) (by kernel_rfl) (by simp) ?_
 refine arc1 (some 12) fun K hK => ?_
 go_simp
 (refine (HIw.out _ hH.1.seed).mono ?_; rintro e w' ⟨vw0, vw1, rfl, w1, w2, w3, hd⟩)
 refine hK.out _ _ ?_ (fun hH => ?_)
 · (exact ⟨hH.1.trans hd, hd.blk hH.2.1 (by omega), hH.2.2.drawn hd (by omega)⟩)
 clear hK K
 (try simp only [cq])
 refine wpAnyH_ready (rs := [11]) (by kernel_rfl) (by simp) ?_
 refine arc1 (some 16) fun K hK => ?_
 go_simp
 (refine (HIq.out _ hH.1.seed).mono ?_; rintro e w' ⟨vq0, vq1, rfl, q1, q2, q3, hd⟩)
 refine hK.out _ _ ?_ (fun hH => ?_)
 · (exact ⟨hH.1.trans hd, hd.blk hH.2.1 (by omega), hH.2.2.drawn hd (by omega)⟩)
 clear hK K
 (try simp only [cq])
 refine wpAnyH_ready (rs := [15]) (by kernel_rfl) (by simp) ?_
 refine arc1 (some 20) fun K hK => ?_
 go_simp
 (refine (HIs.out _ hH.1.seed).mono ?_; rintro e w' ⟨vs0, vs1, rfl, s1, s2, s3, hd⟩)
 refine hK.out _ _ ?_ (fun hH => ?_)
 · (exact ⟨hH.1.trans hd, hd.blk hH.2.1 (by omega), hH.2.2.drawn hd (by omega)⟩)
 clear hK K
 (try simp only [cq])
 refine tkY 16 (some 21) ?_ ?_ ?_
 rotate_left
 · intro w _; go_simp; (try with_reducible rfl)
 (try simp only [cq])
 refine wpAnyH_ready (rs := [17]) (by kernel_rfl) (by simp) ?_
 refine arc1 none fun K hK => ?_
 obtain ⟨hD, hXX, p0, p1, p2, p3, p4, p5, p6, p7, hR⟩ := hH
 obtain ⟨r0, r1, r2, r3, r4, r5, r6, r7⟩ := hR.c8
 have fr0 := hR.free 0
 have fr1 := hR.free 1
 have fr2 := hR.free 2
 have fr3 := hR.free 3
 have fr4 := hR.free 4
 have fr5 := hR.free 5
 have fr6 := hR.free 6
 have fr7 := hR.free 7
 have zR := hR.lt
 have HS := Lib.hid (hR.set8 (.int .i64 vb0) (.int .i64 vb1) (.int .i64 vw0) (.int .i64 vw1) (.int .i64 vq0) (.int .i64 vq1) (.int .i64 vs0) (.int .i64 vs1))
 have HD := Lib.hid (hD.set8 (b := w.heap.size + 1) (by omega) hbs (.int .i64 vb0) (.int .i64 vb1) (.int .i64 vw0) (.int .i64 vw1) (.int .i64 vq0) (.int .i64 vq1) (.int .i64 vs0) (.int .i64 vs1))
 go_simp
 refine hK.out _ _ ?_ (fun hH => ?_)
 · exact ⟨HD.out, hXX.other8 (by omega) _ _ _ _ _ _ _ _, _, _, _, _, _, _, _, _, HS.out⟩
 clear hK K
 (try simp only [cq])
 refine wpAnyH_done (by kernel_rfl) ?_ _
 (try dsimp only [Act.put])
 (try simp only [cq])
 obtain ⟨z0, z1, z2, z3, z4, z5, z6, z7⟩ := HS.out.c8
 clear hH r0 r1 r2 r3 r4 r5 r6 r7 fr0 fr1 fr2 fr3 fr4 fr5 fr6 fr7 zR hR hXX hD
 have hk := HK.out _ _ _ _ _ _ _ _ b1 b2 b3 w1 w2 w3 q1 q2 q3 s1 s2 s3
 go_wp2
 exact bodyPost_ret (v := .agg #[.int .i64 vb0, .int .i64 vb1, .int .i64 vw0, .int .i64 vw1, .int .i64 vq0, .int .i64 vq1, .int .i64 vs0, .int .i64 vs1]) (by simp [results, Try.results26, go_sem, z0, z1, z2, z3, z4, z5, z6, z7]) rfl ⟨⟨vb0, vb1, vw0, vw1, vq0, vq1, vs0, vs1⟩, rfl, hk.1, hk.2, HD.out⟩ )
end Go.Proofs.Ytkldjaofgdklbaa

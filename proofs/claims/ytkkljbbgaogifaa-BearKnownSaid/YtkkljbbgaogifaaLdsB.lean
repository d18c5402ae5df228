/-
  sastrugilaw03.loads; the kit's Same says yes; bear.Bears and Speed of what is valid.
-/
import Derived.Test.YtkkljbbgaogifaaTail
import Derived.Test.YtkkljbbgaogifaaAwkB
import Derived.Test.YtkkljbbgaogifaaShare
set_option linter.unusedVariables false
set_option linter.unusedSimpArgs false
namespace Go.Proofs.Ytkkljbbgaogifaa
open Go.RowKit

theorem newsB4 {W : World} {b : Nat} {x0 x1 x2 x3 : Value} {t : TypeId} (h : Blk W b #[x0, x1, x2, x3] t) : ∀ (j : Nat) (u : Value), [x0, x1, x2, x3][j]? = some u → W.cell? ((⟨b, 0, none⟩ : Addr).add j) = some u := by
  intro j u hj
  have e : (⟨b, 0, none⟩ : Addr).add j = ⟨b, j, none⟩ := by simp [Addr.add]; intro hj; exact hj.symm
  rw [e]
  exact h.cell j (by simpa using hj)

set_option maxRecDepth 100000 in
set_option maxHeartbeats 4000000 in
theorem kloads_any (a c : Int) (n : Nat) (v : Value) (x : Nat → Int) (hn : n ≤ 1000) (w : World) (hx : IntsAt w v n x) :
    Calls Try.prog 69 #[.agg #[.int .i64 a, .int .i64 c], v] w fun e w' => ∃ u, e = .returned u ∧ LoadsAt w' u n (fun i => ⟨x i, a, c, 0⟩) ∧ Below w.heap.size w w' := by
  obtain ⟨aV, cV, rfl, hc1, hc2, h3⟩ := hx
  have H3 := Lib.hid h3
  obtain ⟨i0, hi0, hz0, hz1, hz2⟩ := info_parts Try.infoLoad
  clear h3
  obtain ⟨L, hLL⟩ : ∃ L : Nat → Ld, L = fun i => ⟨x i, a, c, 0⟩ := ⟨_, rfl⟩
  rw [← hLL]
  have HC : Hid (∀ k, catC (loadC L) (k + 1) = catC (loadC L) k ++ [.int .i64 (x k), .int .i64 a, .int .i64 c, .int .i64 0]) := fun k => by rw [hLL]; rfl
  clear hLL
  have jS := Blk.new w #[.int .i64 a, .int .i64 c] 23
  have jB : Below w.heap.size w (w.alloc (.cells #[.int .i64 a, .int .i64 c] 23)) := by (repeat (first | exact Below.refl _ _ | assumption | refine Below.drew ?_ | refine Below.drewN ?_ _ | refine blT ?_ | refine blU ?_))
  have jR := World.ownsRow_nil (w.alloc (.cells #[.int .i64 a, .int .i64 c] 23)) (w.heap.size + 1) 53 4
  go_enter Try.func69, Try.ntmps69
  go_wp2_with fail
  go_loopw [5, 6] (fun l i wr => ∃ (k : Nat), i = .int .i64 k ∧ k ≤ n ∧ wr.ownsRow (w.heap.size + 1) 53 4 l k (catC (loadC L) k) ∧ Blk wr w.heap.size #[.int .i64 a, .int .i64 c] 23 ∧ Below w.heap.size w wr) (fun _ i _ => n - (intOf i).toNat)
  case atStart => exact ⟨0, rfl, Nat.zero_le _, jR, jS, jB⟩
  case round =>
    clear jR jS jB
    obtain ⟨k, rfl, hk, jR, jS, hB⟩ := hrel
    by_cases hlt2 : k < n
    · obtain ⟨b, o, ha, hc⟩ := H3.out (by omega)
      subst ha
      have zb : b < w.heap.size := World.block_lt_of_cell? _ _ (hc k hlt2)
      have a0 := cell_later hB (hc k hlt2)
      clear hc
      obtain ⟨s0, s1⟩ := jS.c2
      have z0 := World.block_lt_of_cell? _ _ a0
      have zS := jS.lt
      have HCk := Lib.hid (HC.out k)
      generalize x k = p at a0 HCk
      have hr : ∀ z, u5.ownBlock = some z → w.heap.size + 1 ≤ z := fun z e => (jR.lt z e).1
      go_upto_region 5 with fail
      (
 refine wp_region_held_drew (S := (fun w' => Blk w' w.heap.size #[.int .i64 a, .int .i64 c] 23 ∧ w'.cell? ⟨b, o + k, none⟩ = some (.int .i64 p) ∧ Below w.heap.size w w' ∧ w.heap.size + 1 ≤ w'.heap.size)) (by kernel_rfl) ?_ (fun hH => ?_)
 · (try dsimp only); (exact ⟨jS.drew, a0, hB.drew, zS⟩)
 refine tkY 0 (some 13) ?_ ?_ ?_
 rotate_left
 · intro w _; go_simp; (try with_reducible rfl)
 (try simp only [cq])
 refine tkY 1 (some 14) ?_ ?_ ?_
 rotate_left
 · intro w _; go_simp; (try with_reducible rfl)
 (try simp only [cq])
 refine tkY 2 (some 15) ?_ ?_ ?_
 rotate_left
 · intro w _; go_simp; (try with_reducible rfl)
 (try simp only [cq])
 refine tkY 3 (some 16) ?_ ?_ ?_
 rotate_left
 · intro w hS0; (try dsimp only at hS0); obtain ⟨kS, k0, _⟩ := hS0; obtain ⟨s0, s1⟩ := kS.c2; have y0 := kS.lt; have y1 := World.block_lt_of_cell? _ _ k0;go_simp; (try with_reducible rfl)
 (try simp only [cq])
 refine tkY 4 (some 17) ?_ ?_ ?_
 rotate_left
 · intro w hS0; (try dsimp only at hS0); obtain ⟨kS, k0, _⟩ := hS0; obtain ⟨s0, s1⟩ := kS.c2; have y0 := kS.lt; have y1 := World.block_lt_of_cell? _ _ k0;go_simp; (try with_reducible rfl)
 (try simp only [cq])
 refine tkY 5 (some 18) ?_ ?_ ?_
 rotate_left
 · intro w hS0; (try dsimp only at hS0); obtain ⟨kS, k0, _⟩ := hS0; obtain ⟨s0, s1⟩ := kS.c2; have y0 := kS.lt; have y1 := World.block_lt_of_cell? _ _ k0;go_simp; (try with_reducible rfl)
 (try simp only [cq])
 refine tkY 6 (some 19) ?_ ?_ ?_
 rotate_left
 · intro w _; go_simp; (try with_reducible rfl)
 (try simp only [cq])
 refine wpAnyH_ready (rs := [7]) (by kernel_rfl) (by simp) ?_
 refine arc1 (some 20) fun K hK => ?_
 go_simp
 first | refine oA hK ?_ (fun hH hA => ?_) | refine oD hK ?_ (fun hH hA => ?_)
 · exact ⟨hH.1.alloc _, (World.cell?_of_block (Below.heap_alloc _ _ _ (World.block_lt_of_cell? _ _ hH.2.1))).trans hH.2.1, bwA hH.2.2.1 (by have := hH.2.2.2; omega) _, by have := hH.2.2.2; simp; omega⟩
 have kN := hA
 clear hA
 obtain ⟨bN, hbN⟩ : ∃ b, Blk.num kN = b := ⟨_, rfl⟩
 simp only [Blk.num] at hbN
 rw [hbN] at kN ⊢
 have hD : ((wr.alloc (.cells #[.int .i64 p, .int .i64 a, .int .i64 c, .int .i64 0] 53)).drew).ownsRow (w.heap.size + 1) 53 4 u5 k (catC (loadC L) k) := jR.alloc (.cells #[.int .i64 p, .int .i64 a, .int .i64 c, .int .i64 0] 53)
 clear hK K
 (try simp only [cq])
 refine wpAnyH_ready (rs := [8]) (by kernel_rfl) (by simp) ?_
 refine arc1 (some 21) fun K hK => ?_
 rw [if_pos (by rfl)]
 obtain ⟨v', w8, hr8, hown, hgrow, _, _⟩ := run_append_own_at (P := Try.prog) _ (w.heap.size + 1) 43 43 53 i0 (.agg #[.int .i64 0, .int .i64 0, .int .i64 0, .int .i64 0]) 4 32 Try.underlying43 hi0 hz0 hz1 hz2 rfl (by decide) u5 k (catC (loadC L) k) hD ⟨bN, 0, none⟩ 1 1 [.int .i64 p, .int .i64 a, .int .i64 c, .int .i64 0] rfl (newsB4 kN) (one4 _ _ _ _) (by unfold maxLen; omega) (by omega) (by have := hH.2.2.2; omega)
 simp only [Oper.wp, execOp, resolve, invoke, builtin, Sem.run_bind, Sem.run_pure, Result.andThen_ok, List.map_toArray, List.map_cons, List.map_nil]
 change Oper.upon _ _ _ _ _ ((Sem.run Try.prog (Builtin.append_ #[43, 43] 43 #[u5, .slice (some ⟨bN, 0, none⟩) 1 1]) _).andThen _)
 rw [hr8]
 have HG := Lib.hid (show Blk w8 w.heap.size #[.int .i64 a, .int .i64 c] 23 ∧ w8.cell? ⟨b, o + k, none⟩ = some (.int .i64 p) ∧ Below w.heap.size w w8 ∧ w.heap.size + 1 ≤ w8.heap.size from ⟨hH.1.grown hgrow (fun q e => by have := hr q e; omega), (World.cell?_of_block (hgrow.block b (World.block_lt_of_cell? _ _ hH.2.1) (fun e => by have := hr b e.symm; omega))).trans hH.2.1, below_grown hH.2.2.1 hgrow (fun q e => by have := hr q e; omega) (by have := hH.2.2.2; omega), Nat.le_trans hH.2.2.2 hgrow.size⟩)
 rw [← HCk.out] at hown
 clear hgrow hr8 hD kN
 simp only [Result.andThen_ok, Oper.upon]
 refine hK.out _ _ ?_ (fun hH => ?_)
 · exact HG.out
 clear hK K
 (try simp only [cq])
 refine tkY 9 (some 5) ?_ ?_ ?_
 rotate_left
 · intro w _; go_simp; (try with_reducible rfl)
 (try simp only [cq])
 refine wpAnyH_done (by kernel_rfl) ?_ _
 (try dsimp only [Act.put])
 (try simp only [cq])
 clear a0 z0 zS s0 s1 hr jR jS hB
 obtain ⟨jS, _, hB, _⟩ := hH
 go_wp2
 go_roundw
 case rel => exact ⟨k + 1, by go_num, by omega, hown, jS, hB⟩
 case measure => simp [intOf]; omega )
    · have hkn : n = k := by omega
      subst hkn
      go_wp2
      go_ret
      exact ⟨u5, rfl, loads_of_row jR, hB⟩
end Go.Proofs.Ytkkljbbgaogifaa

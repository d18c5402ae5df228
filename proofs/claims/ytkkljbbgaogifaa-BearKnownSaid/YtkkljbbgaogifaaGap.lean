/-
  bear.row and bear.bearsAll.
-/
import Derived.Test.YtkkljbbgaogifaaTail
import Derived.Test.YtkkljbbgaogifaaHolds
import Derived.Test.YtkkljbbgaogifaaNumV
set_option linter.unusedVariables false
set_option linter.unusedSimpArgs false
namespace Go.Proofs.Ytkkljbbgaogifaa
open Go.RowKit

set_option maxRecDepth 100000 in
set_option maxHeartbeats 4000000 in
theorem row_any (v : Value) (n : Nat) (W0 W1 : Nat → Int) (g : Int) (hn : n ≤ 1000) (hg : 0 ≤ g ∧ g ≤ 1000000) (w : World) (hv : PairsAt w v n W0 W1) :
    Calls Try.prog 99 #[v, .int .i64 g] w fun e w' => ∃ u, e = .returned u ∧ LoadsAt w' u n (rowL W0 W1 g) ∧ Below w.heap.size w w' := by
  obtain ⟨aV, cV, rfl, hc1, hc2, h3⟩ := hv
  have H3 := Lib.hid h3
  obtain ⟨i0, hi0, hz0, hz1, hz2⟩ := info_parts Try.infoLoad
  clear h3
  obtain ⟨L, hLL⟩ : ∃ L : Nat → Ld, L = rowL W0 W1 g := ⟨_, rfl⟩
  rw [← hLL]
  have HC : Hid (∀ k, catC (loadC L) (k + 1) = catC (loadC L) k ++ [.int .i64 (g * (k : Int)), .int .i64 (W0 k), .int .i64 (W1 k), .int .i64 0]) := fun k => by rw [hLL]; rfl
  clear hLL
  have jR := World.ownsRow_nil w w.heap.size 53 4
  go_enter Try.func99, Try.ntmps99
  go_wp2_with fail
  go_loopw [5, 10] (fun l i wr => ∃ (k : Nat), i = .int .i64 k ∧ k ≤ n ∧ wr.ownsRow w.heap.size 53 4 l k (catC (loadC L) k) ∧ Below w.heap.size w wr) (fun _ i _ => n - (intOf i).toNat)
  case atStart => exact ⟨0, rfl, Nat.zero_le _, jR, Below.refl _ _⟩
  case round =>
    clear jR
    obtain ⟨k, rfl, hk, jR, hB⟩ := hrel
    by_cases hlt2 : k < n
    · obtain ⟨b, o, ha, hc⟩ := H3.out (by omega)
      subst ha
      have a0 := cell_later hB (hc k hlt2).1
      have a1 := cell_later hB (hc k hlt2).2
      clear hc
      have z0 := World.block_lt_of_cell? _ _ a0
      have HCk := Lib.hid (HC.out k)
      have m0 := Int.mul_nonneg hg.1 (show (0 : Int) ≤ (k : Int) by omega)
      have m1 := Int.mul_le_mul hg.2 (show (k : Int) ≤ 1000 by omega) (by omega) (by omega : (0 : Int) ≤ 1000000)
      have ew : IntKind.i64.wrap (g * (k : Int)) = g * (k : Int) := IntWalk.i64_in _ (by omega)
      generalize W0 k = p0 at a0 HCk
      generalize W1 k = p1 at a1 HCk
      clear m0 m1
      have hr : ∀ z, u5.ownBlock = some z → w.heap.size ≤ z := fun z e => (jR.lt z e).1
      have zS := hB.size
      have jX := Blk.new wr #[.int .i64 p0, .int .i64 p1] 23
      go_upto_region 5 with fail
      clear a0 a1 z0
      replace jR := jR.alloc (.cells #[.int .i64 p0, .int .i64 p1] 23)
      replace hB := bwA hB (Nat.le_refl _) (.cells #[.int .i64 p0, .int .i64 p1] 23)
      obtain ⟨bX, hbX⟩ : ∃ z, wr.heap.size = z := ⟨_, rfl⟩
      rw [hbX] at jX
      (try rw [hbX])
      clear hbX zS
      generalize wr.alloc (.cells #[.int .i64 p0, .int .i64 p1] 23) = V at jX jR hB ⊢
      have zV := hB.size
      obtain ⟨x0, x1⟩ := jX.c2
      have zX := jX.lt
      go_wp2_with (at_builtin; refine wpList_append_own_at _ rfl _ _ 43 rfl w.heap.size 53 i0 (.agg #[.int .i64 0, .int .i64 0, .int .i64 0, .int .i64 0]) 4 32 Try.underlying43 hi0 hz0 hz1 hz2 rfl (by decide) _ _ _ rfl (jR.alloc _) ⟨V.heap.size, 0, none⟩ 1 1 [.int .i64 (g * (k : Int)), .int .i64 p0, .int .i64 p1, .int .i64 0] rfl rfl (news4 _ _ _ _ _ _) (one4 _ _ _ _) (by unfold maxLen; omega) (by omega) (by simp; omega) ?_; intro v' w9 hown' hgrow _ _; rw [← HCk.out] at hown'; have kB := below_grown (bwA hB (Nat.le_refl _) (.cells #[.int .i64 (g * (k : Int)), .int .i64 p0, .int .i64 p1, .int .i64 0] 53)) hgrow (fun q e => by have := hr q e; omega) (by simp; omega))
      clear hgrow jR hB hr
      go_roundw
      case rel => exact ⟨k + 1, by go_num, by omega, hown', kB⟩
      case measure => simp [intOf]; omega
    · obtain rfl : k = n := by omega
      go_wp2
      go_ret
      exact ⟨u5, rfl, loads_of_row jR, hB⟩

set_option maxRecDepth 100000 in
set_option maxHeartbeats 4000000 in
theorem bearsall_any (p : Pl) (hp : p.Ok) (vS vC vL : Value) (th : Int) (ht : 0 ≤ th ∧ th ≤ 5000) (n : Nat) (L : Nat → Ld) (hn : LoadsIn n L) (w : World) (hS : TabAt w vS p.S) (hC : TabAt w vC p.C) (hL : LoadsAt w vL n L) :
    Calls Try.prog 98 #[.agg #[.int .i64 p.s0, .int .i64 p.s1, vS, vC, .int .i64 p.ne, .int .i64 p.ed, .int .i64 p.gr, .int .i64 p.lo, .int .i64 p.hi, .int .i64 p.sh, .int .i64 p.wi], .int .i64 th, vL] w fun e w' => e = .returned (.bool (allB (fun i => decide (burdV p false n L (L i).me * 1000000 ≤ limV p false th (L i).st)) n)) ∧ Below w.heap.size w w' := by
  obtain ⟨aS, cS, rfl, _, _, _⟩ := id hS
  obtain ⟨aC, cC, rfl, _, _, _⟩ := id hC
  obtain ⟨aL, cL, rfl, hcL, hmL, h3⟩ := id hL
  have H3 := Lib.hid h3
  obtain ⟨f, hf⟩ : ∃ f : Nat → Bool, f = fun i => decide (burdV p false n L (L i).me * 1000000 ≤ limV p false th (L i).st) := ⟨_, rfl⟩
  rw [← hf]
  have HB : Hid (∀ k, k < n → ∀ W, Below w.heap.size w W → Calls Try.prog 126 #[.agg #[.bool false, .int .i64 p.s0, .int .i64 p.s1, (.slice aS p.S.n cS), (.slice aC p.C.n cC), .int .i64 p.ne, .int .i64 p.ed, .int .i64 p.gr, .int .i64 p.lo, .int .i64 p.hi, .int .i64 p.sh, .int .i64 p.wi], .int .i64 th, .slice aL n cL, .agg #[.int .i64 (L k).me, .int .i64 (L k).w0, .int .i64 (L k).w1, .int .i64 (L k).st]] W fun e w' => e = .returned (.bool (f k)) ∧ Below W.heap.size W w') := fun k hk W hW => by
    rw [hf]
    have q := hn.each k hk
    exact bears_any p hp false _ _ _ th ht n L hn (L k) ⟨q.2.2.2.1, q.2.2.2.2.1, q.2.2.2.2.2⟩ W (hL.later hW) (PairsAt.later hS hW) (PairsAt.later hC hW)
  have HT : Hid ((∀ i, i < n → f i = true) → allB f n = true) := fun h => (allB_iff f n).2 h
  have HF : Hid (∀ k, k < n → f k = false → allB f n = false) := fun k hk h => by
    cases e : allB f n with
    | false => rfl
    | true => rw [(allB_iff f n).1 e k hk] at h; simp at h
  generalize allB f n = r at HT HF ⊢
  have HWo := Lib.hid (worst_any p aS aC p.S.n cS p.C.n cC)
  have jP := Blk.new w #[.int .i64 p.s0, .int .i64 p.s1, (.slice aS p.S.n cS), (.slice aC p.C.n cC), .int .i64 p.ne, .int .i64 p.ed, .int .i64 p.gr, .int .i64 p.lo, .int .i64 p.hi, .int .i64 p.sh, .int .i64 p.wi] 26
  have jB : Below w.heap.size w (w.alloc (.cells #[.int .i64 p.s0, .int .i64 p.s1, (.slice aS p.S.n cS), (.slice aC p.C.n cC), .int .i64 p.ne, .int .i64 p.ed, .int .i64 p.gr, .int .i64 p.lo, .int .i64 p.hi, .int .i64 p.sh, .int .i64 p.wi] 26)) := by (repeat (first | exact Below.refl _ _ | assumption | refine Below.drew ?_ | refine Below.drewN ?_ _ | refine blT ?_ | refine blU ?_))
  clear hS hC hL h3 hf hp ht
  go_enter Try.func98, Try.ntmps98
  go_upto_region 1 with fail
  obtain ⟨bP, hbP⟩ : ∃ b, w.heap.size = b := ⟨_, rfl⟩
  rw [hbP] at jP
  (try rw [hbP])
  clear hbP
  generalize w.alloc (.cells #[.int .i64 p.s0, .int .i64 p.s1, (.slice aS p.S.n cS), (.slice aC p.C.n cC), .int .i64 p.ne, .int .i64 p.ed, .int .i64 p.gr, .int .i64 p.lo, .int .i64 p.hi, .int .i64 p.sh, .int .i64 p.wi] 26) = V at jP jB ⊢
  have HP := Lib.hid jP
  have HJ := Lib.hid jB
  clear jP
  go_wp2_with fail
  go_loopw [11] (fun i wr => ∃ k : Nat, i = .int .i64 k ∧ k ≤ n ∧ (∀ j, j < k → f j = true) ∧ Below V.heap.size V wr) (fun i _ => n - (intOf i).toNat)
  case atStart => exact ⟨0, rfl, Nat.zero_le _, fun j hj => by omega, Below.refl _ _⟩
  case round =>
    clear jB
    obtain ⟨k, rfl, hk, hj, hB⟩ := hrel
    have HJk := Lib.hid hj
    clear hj
    by_cases hlt2 : k < n
    · obtain ⟨b, o, ha, hc⟩ := H3.out (by omega)
      subst ha
      have jB := bwS HJ.out (by have := HJ.out.size; omega) hB
      have a0 := cell_later jB (hc k hlt2).1
      have a1 := cell_later jB (hc k hlt2).2.1
      have a2 := cell_later jB (hc k hlt2).2.2.1
      have a3 := cell_later jB (hc k hlt2).2.2.2
      clear hc
      have z0 := World.block_lt_of_cell? _ _ a0
      have HBk := Lib.hid (HB.out k hlt2)
      have HFk := Lib.hid (HF.out k hlt2)
      obtain ⟨x, hx⟩ : ∃ x, L k = x := ⟨_, rfl⟩
      rw [hx] at a0 a1 a2 a3 HBk
      clear hx
      obtain ⟨y, hy⟩ : ∃ y, f k = y := ⟨_, rfl⟩
      rw [hy] at HBk HFk
      have HY := Lib.hid hy
      clear hy
      have jX := Blk.new wr #[.int .i64 x.me, .int .i64 x.w0, .int .i64 x.w1, .int .i64 x.st] 53
      go_upto_region 4 with fail
      clear a0 a1 a2 a3 z0
      obtain ⟨bX, hbX⟩ : ∃ z, wr.heap.size = z := ⟨_, rfl⟩
      rw [hbX] at jX
      (try rw [hbX])
      clear hbX
      replace hB := bwA hB (Nat.le_refl _) (.cells #[.int .i64 x.me, .int .i64 x.w0, .int .i64 x.w1, .int .i64 x.st] 53)
      replace jB := bwA jB (Nat.le_refl _) (.cells #[.int .i64 x.me, .int .i64 x.w0, .int .i64 x.w1, .int .i64 x.st] 53)
      generalize wr.alloc (.cells #[.int .i64 x.me, .int .i64 x.w0, .int .i64 x.w1, .int .i64 x.st] 53) = V2 at jX jB hB ⊢
      refine wp_region_held_drew (S := (fun v => Below V.heap.size V v ∧ Below w.heap.size w v ∧ Blk v bX #[.int .i64 x.me, .int .i64 x.w0, .int .i64 x.w1, .int .i64 x.st] 53)) (by kernel_rfl) ?_ (fun hH => ?_)
      · (try dsimp only); (exact ⟨hB.drew, jB.drew, jX.drew⟩)
      refine tkY 0 (some 15) ?_ ?_ ?_
      rotate_left
      · intro w hS0; (try dsimp only at hS0); obtain ⟨q9, _, kX⟩ := hS0; have kP := HP.out.call q9; obtain ⟨c0, c1, c2, c3, c4, c5, c6, c7, c8, c9, c10⟩ := kP.c11; obtain ⟨x0, x1, x2, x3⟩ := kX.c4; have y0 := kP.lt; have y1 := kX.lt;go_simp; (try with_reducible rfl)
      (try simp only [cq])
      refine tkY 2 (some 17) ?_ ?_ ?_
      rotate_left
      · intro w _; go_simp; (try with_reducible rfl)
      (try simp only [cq])
      refine tkY 3 (some 18) ?_ ?_ ?_
      rotate_left
      · intro w _; go_simp; (try with_reducible rfl)
      (try simp only [cq])
      refine tkY 4 (some 19) ?_ ?_ ?_
      rotate_left
      · intro w hS0; (try dsimp only at hS0); obtain ⟨q9, _, kX⟩ := hS0; have kP := HP.out.call q9; obtain ⟨c0, c1, c2, c3, c4, c5, c6, c7, c8, c9, c10⟩ := kP.c11; obtain ⟨x0, x1, x2, x3⟩ := kX.c4; have y0 := kP.lt; have y1 := kX.lt;go_simp; (try with_reducible rfl)
      (try simp only [cq])
      refine wpAnyH_ready (rs := [1]) (by kernel_rfl) (by simp) ?_
      refine arc1 (some 16) fun K hK => ?_
      go_simp
      (refine (HWo.out _).mono ?_; rintro e w' ⟨rfl, hb⟩)
      refine hK.out _ _ ?_ ?_
      · (exact ⟨bwS hH.1 (Nat.le_refl _) hb, bwS hH.2.1 (Nat.le_refl _) hb, hH.2.2.call hb⟩)
      (try clear hH); (try clear hb)
      intro hH
      clear hK K
      (try simp only [cq])
      refine wpAnyH_ready (rs := [5]) (by kernel_rfl) (by simp) ?_
      refine arc1 (some 20) fun K hK => ?_
      go_simp
      (refine (HBk.out _ hH.2.1).mono ?_; rintro e w' ⟨rfl, hb⟩)
      refine hK.out _ _ ?_ ?_
      · (exact ⟨bwS hH.1 (Nat.le_refl _) hb, bwS hH.2.1 (Nat.le_refl _) hb, hH.2.2.call hb⟩)
      (try clear hH); (try clear hb)
      intro hH
      clear hK K
      (try simp only [cq])
      refine tkY 6 (some 21) ?_ ?_ ?_
      rotate_left
      · intro w _; go_simp; (try with_reducible rfl)
      (try simp only [cq])
      refine wpAnyH_done (by kernel_rfl) ?_ _
      (try dsimp only [Act.put])
      (try simp only [cq])
      clear hB jB jX
      obtain ⟨hB, jB, _⟩ := hH
      cases y with
      | true =>
        go_wp2
        go_roundw
        case rel => exact ⟨k + 1, by go_num, by omega, fun j hj => by
            by_cases e : j = k
            · subst e; exact HY.out
            · exact HJk.out j (by omega), hB⟩
        case measure => simp [intOf]; omega
      | false =>
        have hr := HFk.out rfl
        subst hr
        go_wp2
        go_ret
        exact ⟨rfl, jB⟩
    · have hr := HT.out (fun i hi => HJk.out i (by omega))
      subst hr
      go_wp2
      go_ret
      exact ⟨rfl, bwS HJ.out (by have := HJ.out.size; omega) hB⟩
end Go.Proofs.Ytkkljbbgaogifaa

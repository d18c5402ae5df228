/-
  The reference's burdens and verdicts (layer 3), where all is valid.
-/
import Derived.Test.YtfakmggabicdjaaTail
import Derived.Test.YtfakmggabicdjaaRB3
set_option linter.unusedVariables false
set_option linter.unusedSimpArgs false
namespace Go.Proofs.Ytfakmggabicdjaa
open Go.RowKit

theorem rfar_comm (a b : Int) : farV a b = farV b a := by simp only [farV]; omega

set_option maxRecDepth 100000 in
set_option maxHeartbeats 8000000 in
theorem rburd_any (p : Pl) (hp : p.Ok) (vS vC vL : Value) (n : Nat) (L : Nat → Ld) (hn : LoadsIn n L) (k0 : Nat) (hk0 : k0 < n) (w : World) (hS : TabAt w vS p.S) (hC : TabAt w vC p.C) (hL : LoadsAt w vL n L) :
    Calls Try.prog 129 #[.agg #[.int .i64 p.s0, .int .i64 p.s1, vS, vC, .int .i64 p.ne, .int .i64 p.ed, .int .i64 p.gr, .int .i64 p.lo, .int .i64 p.hi, .int .i64 p.sh, .int .i64 p.wi], vL, .int .i64 k0] w fun e w' => e = .returned (.agg #[.int .i64 (burdV p true n L (L k0).me), .int .i64 (burdV p false n L (L k0).me)]) ∧ Below w.heap.size w w' := by
  obtain ⟨aS, cS, rfl, _, _, _⟩ := id hS
  obtain ⟨aC, cC, rfl, _, _, _⟩ := id hC
  obtain ⟨aL, cL, rfl, hcL, hmL, h3⟩ := hL
  obtain ⟨b, o, rfl, hlc⟩ := h3 (by omega)
  have HL := Lib.hid hlc
  obtain ⟨a, ha⟩ : ∃ a, (L k0).me = a := ⟨_, rfl⟩
  have q0 := (hlc k0 hk0).1
  rw [ha] at q0 ⊢
  have hab : 0 ≤ a ∧ a ≤ 1000000000 := by have := hn.each k0 hk0; omega
  have hn30 := hn.n30
  have HP : Hid (∀ k : Nat, k < n → ∀ W, Below w.heap.size w W → Calls Try.prog 109 #[.slice aS p.S.n cS, .int .i64 (farV (L k).me a)] W fun e w' => e = .returned (.int .i64 (p.S.val (farV (L k).me a))) ∧ Below W.heap.size W w') := fun k hk W hW =>
    rpart_any _ p.S _ W (PairsAt.later hS hW) hp.S.n1 (by rw [hp.S.f0]; unfold farV; omega)
  have HF : Hid (∀ k : Nat, k < n → ∀ W, Calls Try.prog 135 #[.int .i64 (L k).me, .int .i64 a] W fun e w' => e = .returned (.int .i64 (farV (L k).me a)) ∧ Below W.heap.size W w') := fun k hk W => rfar_any _ _ (by have := hn.each k hk; omega) (by omega) W
  have HT : Hid (∀ k : Nat, k < n → (0 ≤ (L k).w0 * p.S.val (farV (L k).me a) ∧ (L k).w0 * p.S.val (farV (L k).me a) ≤ 200000000000) ∧ (0 ≤ (L k).w1 * p.S.val (farV (L k).me a) ∧ (L k).w1 * p.S.val (farV (L k).me a) ≤ 200000000000) ∧ (0 ≤ burdV p true k L a ∧ burdV p true k L a ≤ 6000000000000) ∧ (0 ≤ burdV p false k L a ∧ burdV p false k L a ≤ 6000000000000) ∧ burdV p true (k + 1) L a = burdV p true k L a + (L k).w0 * p.S.val (farV (L k).me a) ∧ burdV p false (k + 1) L a = burdV p false k L a + (L k).w1 * p.S.val (farV (L k).me a)) := fun k hk => by
    have q := hn.each k hk
    have r := hp.S.val_in (farV (L k).me a)
    have bi := fun b => burd_in hp b hn.n30 (fun i hi => ⟨(hn.each i hi).1, (hn.each i hi).2.1, (hn.each i hi).2.2.1⟩) a k (by omega)
    refine ⟨⟨Int.mul_nonneg q.1 r.1, ?_⟩, ⟨Int.mul_nonneg (by omega) r.1, ?_⟩, bi true, bi false, ?_, ?_⟩
    · have := Int.mul_le_mul (show (L k).w0 ≤ 200000 by omega) r.2 r.1 (by omega : (0:Int) ≤ 200000); omega
    · have := Int.mul_le_mul q.2.2.1 r.2 r.1 (by omega : (0:Int) ≤ 200000); omega
    · rw [rfar_comm (L k).me a]; rfl
    · rw [rfar_comm (L k).me a]; rfl
  have a0 := Blk.new w #[.int .i64 p.s0, .int .i64 p.s1, (.slice aS p.S.n cS), (.slice aC p.C.n cC), .int .i64 p.ne, .int .i64 p.ed, .int .i64 p.gr, .int .i64 p.lo, .int .i64 p.hi, .int .i64 p.sh, .int .i64 p.wi] 26
  have jP := (a0.alloc (.cells #[.int .i64 0, .int .i64 0] 23)).alloc (.cells #[.int .i64 0, .int .i64 0] 23)
  have j6 := (Blk.new1 w (.cells #[.int .i64 p.s0, .int .i64 p.s1, (.slice aS p.S.n cS), (.slice aC p.C.n cC), .int .i64 p.ne, .int .i64 p.ed, .int .i64 p.gr, .int .i64 p.lo, .int .i64 p.hi, .int .i64 p.sh, .int .i64 p.wi] 26) #[.int .i64 0, .int .i64 0] 23).alloc (.cells #[.int .i64 0, .int .i64 0] 23)
  have j7 := Blk.new2 w (.cells #[.int .i64 p.s0, .int .i64 p.s1, (.slice aS p.S.n cS), (.slice aC p.C.n cC), .int .i64 p.ne, .int .i64 p.ed, .int .i64 p.gr, .int .i64 p.lo, .int .i64 p.hi, .int .i64 p.sh, .int .i64 p.wi] 26) (.cells #[.int .i64 0, .int .i64 0] 23) #[.int .i64 0, .int .i64 0] 23
  have jB : Below w.heap.size w (((w.alloc (.cells #[.int .i64 p.s0, .int .i64 p.s1, (.slice aS p.S.n cS), (.slice aC p.C.n cC), .int .i64 p.ne, .int .i64 p.ed, .int .i64 p.gr, .int .i64 p.lo, .int .i64 p.hi, .int .i64 p.sh, .int .i64 p.wi] 26)).alloc (.cells #[.int .i64 0, .int .i64 0] 23)).alloc (.cells #[.int .i64 0, .int .i64 0] 23)) := by (repeat (first | exact Below.refl _ _ | assumption | refine Below.drew ?_ | refine Below.drewN ?_ _ | refine blT ?_ | refine blU ?_))
  clear hS hC h3 hlc ha hn hp a0
  go_enter Try.func129, Try.ntmps129
  go_upto_region 2 with fail
  obtain ⟨bP, hbP⟩ : ∃ b, w.heap.size = b := ⟨_, rfl⟩
  obtain ⟨b6, hb6⟩ : ∃ b, bP + 1 = b := ⟨_, rfl⟩
  obtain ⟨b7, hb7⟩ : ∃ b, b6 + 1 = b := ⟨_, rfl⟩
  have ewB : w.heap.size = bP := hbP
  have HBP := Lib.hid hbP
  rw [hbP] at jP j6 j7
  (try rw [hbP])
  rw [hb6] at j6 j7
  (try rw [hb6])
  rw [hb7] at j7
  (try rw [hb7])
  have zP6 : bP < b6 := by omega
  have z67 : b6 < b7 := by omega
  have zwP : w.heap.size ≤ bP := by omega
  clear hbP hb6 hb7 ewB
  generalize ((w.alloc (.cells #[.int .i64 p.s0, .int .i64 p.s1, (.slice aS p.S.n cS), (.slice aC p.C.n cC), .int .i64 p.ne, .int .i64 p.ed, .int .i64 p.gr, .int .i64 p.lo, .int .i64 p.hi, .int .i64 p.sh, .int .i64 p.wi] 26)).alloc (.cells #[.int .i64 0, .int .i64 0] 23)).alloc (.cells #[.int .i64 0, .int .i64 0] 23) = V at jP j6 j7 jB ⊢
  go_wp2_with fail
  go_loopw [8] (fun i wr => ∃ k : Nat, k ≤ n ∧ i = .int .i64 k ∧ Blk wr bP #[.int .i64 p.s0, .int .i64 p.s1, (.slice aS p.S.n cS), (.slice aC p.C.n cC), .int .i64 p.ne, .int .i64 p.ed, .int .i64 p.gr, .int .i64 p.lo, .int .i64 p.hi, .int .i64 p.sh, .int .i64 p.wi] 26 ∧ Blk wr b6 #[.int .i64 0, .int .i64 0] 23 ∧ Blk wr b7 #[.int .i64 (burdV p true k L a), .int .i64 (burdV p false k L a)] 23 ∧ Below w.heap.size w wr) (fun i _ => n - (intOf i).toNat)
  case atStart => exact ⟨0, Nat.zero_le _, rfl, jP, j6, j7, jB⟩
  case round =>
    clear jP j6 j7 jB
    obtain ⟨k, hk, rfl, jP, j6, j7, jB⟩ := hrel
    by_cases hlt2 : k < n
    · obtain ⟨⟨t0, t1⟩, ⟨t2, t3⟩, ⟨t4, t5⟩, ⟨t6, t7⟩, hs0, hs1⟩ := HT.out k hlt2
      have HPk := Lib.hid (HP.out k hlt2)
      have HFk := Lib.hid (HF.out k hlt2)
      have HLk := Lib.hid (HL.out k hlt2)
      have HQ0 := Lib.hid q0
      have hkn : (k : Int) < (n : Int) := by omega
      have hk0n : (k0 : Int) < (n : Int) := by omega
      have HS0 := Lib.hid hs0
      have HS1 := Lib.hid hs1
      clear hs0 hs1 q0
      obtain ⟨s0, hs0⟩ : ∃ s, burdV p true (k + 1) L a = s := ⟨_, rfl⟩
      obtain ⟨s1, hs1⟩ : ∃ s, burdV p false (k + 1) L a = s := ⟨_, rfl⟩
      rw [hs0] at HS0
      rw [hs1] at HS1
      have HE0 := Lib.hid hs0
      have HE1 := Lib.hid hs1
      clear hs0 hs1
      have HTs : Hid ((0 ≤ (L k).w0 * p.S.val (farV (L k).me a) ∧ (L k).w0 * p.S.val (farV (L k).me a) ≤ 200000000000) ∧ (0 ≤ (L k).w1 * p.S.val (farV (L k).me a) ∧ (L k).w1 * p.S.val (farV (L k).me a) ≤ 200000000000)) := ⟨⟨t0, t1⟩, ⟨t2, t3⟩⟩
      clear t0 t1 t2 t3
      generalize burdV p true k L a = u0 at t4 t5 HS0 j7
      generalize burdV p false k L a = u1 at t6 t7 HS1 j7
      generalize p.S.val (farV (L k).me a) = pv at HPk HS0 HS1 HTs
      generalize farV (L k).me a = fv at HPk HFk
      obtain ⟨x, hx⟩ : ∃ x, L k = x := ⟨_, rfl⟩
      rw [hx] at HLk HFk HS0 HS1 HTs
      clear hx HP HF HT HL
      go_upto_region 5 with fail
      refine wp_region_held_drew (S := (fun v => Blk v bP #[.int .i64 p.s0, .int .i64 p.s1, (.slice aS p.S.n cS), (.slice aC p.C.n cC), .int .i64 p.ne, .int .i64 p.ed, .int .i64 p.gr, .int .i64 p.lo, .int .i64 p.hi, .int .i64 p.sh, .int .i64 p.wi] 26 ∧ Blk v b6 #[.int .i64 0, .int .i64 0] 23 ∧ Blk v b7 #[.int .i64 u0, .int .i64 u1] 23 ∧ Below w.heap.size w v)) (by kernel_rfl) ?_ (fun hH => ?_)
      · (try dsimp only); (exact ⟨jP.drew, j6.drew, j7.drew, jB.drew⟩)
      refine tkY 0 (some 16) ?_ ?_ ?_
      rotate_left
      · intro w hS0; (try dsimp only at hS0); obtain ⟨kP, _, _, kB⟩ := hS0; obtain ⟨c0, c1, c2, c3, c4, c5, c6, c7, c8, c9, c10⟩ := kP.c11; have g0 := cell_later kB HLk.out.1; have g1 := cell_later kB HQ0.out; have y0 := kP.lt; have y1 := World.block_lt_of_cell? _ _ g0; have y2 := World.block_lt_of_cell? _ _ g1;go_simp; (try with_reducible rfl)
      (try simp only [cq])
      refine tkY 1 (some 17) ?_ ?_ ?_
      rotate_left
      · intro w hS0; (try dsimp only at hS0); obtain ⟨kP, _, _, kB⟩ := hS0; obtain ⟨c0, c1, c2, c3, c4, c5, c6, c7, c8, c9, c10⟩ := kP.c11; have g0 := cell_later kB HLk.out.1; have g1 := cell_later kB HQ0.out; have y0 := kP.lt; have y1 := World.block_lt_of_cell? _ _ g0; have y2 := World.block_lt_of_cell? _ _ g1;go_simp; (try with_reducible rfl)
      (try simp only [cq])
      refine tkY 2 (some 18) ?_ ?_ ?_
      rotate_left
      · intro w _; go_simp; (try with_reducible rfl)
      (try simp only [cq])
      refine tkY 3 (some 19) ?_ ?_ ?_
      rotate_left
      · intro w _; go_simp; (try with_reducible rfl)
      (try simp only [cq])
      refine tkY 4 (some 20) ?_ ?_ ?_
      rotate_left
      · intro w hS0; (try dsimp only at hS0); obtain ⟨kP, _, _, kB⟩ := hS0; obtain ⟨c0, c1, c2, c3, c4, c5, c6, c7, c8, c9, c10⟩ := kP.c11; have g0 := cell_later kB HLk.out.1; have g1 := cell_later kB HQ0.out; have y0 := kP.lt; have y1 := World.block_lt_of_cell? _ _ g0; have y2 := World.block_lt_of_cell? _ _ g1;go_simp; (try with_reducible rfl)
      (try simp only [cq])
      refine tkY 5 (some 21) ?_ ?_ ?_
      rotate_left
      · intro w hS0; (try dsimp only at hS0); obtain ⟨kP, _, _, kB⟩ := hS0; obtain ⟨c0, c1, c2, c3, c4, c5, c6, c7, c8, c9, c10⟩ := kP.c11; have g0 := cell_later kB HLk.out.1; have g1 := cell_later kB HQ0.out; have y0 := kP.lt; have y1 := World.block_lt_of_cell? _ _ g0; have y2 := World.block_lt_of_cell? _ _ g1;go_simp; (try with_reducible rfl)
      (try simp only [cq])
      refine tkY 6 (some 22) ?_ ?_ ?_
      rotate_left
      · intro w hS0; (try dsimp only at hS0); obtain ⟨kP, _, _, kB⟩ := hS0; obtain ⟨c0, c1, c2, c3, c4, c5, c6, c7, c8, c9, c10⟩ := kP.c11; have g0 := cell_later kB HLk.out.1; have g1 := cell_later kB HQ0.out; have y0 := kP.lt; have y1 := World.block_lt_of_cell? _ _ g0; have y2 := World.block_lt_of_cell? _ _ g1;go_simp; (try with_reducible rfl)
      (try simp only [cq])
      refine tkY 7 (some 23) ?_ ?_ ?_
      rotate_left
      · intro w _; go_simp; (try with_reducible rfl)
      (try simp only [cq])
      refine tkY 8 (some 24) ?_ ?_ ?_
      rotate_left
      · intro w _; go_simp; (try with_reducible rfl)
      (try simp only [cq])
      refine tkY 9 (some 25) ?_ ?_ ?_
      rotate_left
      · intro w hS0; (try dsimp only at hS0); obtain ⟨kP, _, _, kB⟩ := hS0; obtain ⟨c0, c1, c2, c3, c4, c5, c6, c7, c8, c9, c10⟩ := kP.c11; have g0 := cell_later kB HLk.out.1; have g1 := cell_later kB HQ0.out; have y0 := kP.lt; have y1 := World.block_lt_of_cell? _ _ g0; have y2 := World.block_lt_of_cell? _ _ g1;go_simp; (try with_reducible rfl)
      (try simp only [cq])
      refine tkY 10 (some 26) ?_ ?_ ?_
      rotate_left
      · intro w hS0; (try dsimp only at hS0); obtain ⟨kP, _, _, kB⟩ := hS0; obtain ⟨c0, c1, c2, c3, c4, c5, c6, c7, c8, c9, c10⟩ := kP.c11; have g0 := cell_later kB HLk.out.1; have g1 := cell_later kB HQ0.out; have y0 := kP.lt; have y1 := World.block_lt_of_cell? _ _ g0; have y2 := World.block_lt_of_cell? _ _ g1;go_simp; (try with_reducible rfl)
      (try simp only [cq])
      refine tkY 11 (some 27) ?_ ?_ ?_
      rotate_left
      · intro w hS0; (try dsimp only at hS0); obtain ⟨kP, _, _, kB⟩ := hS0; obtain ⟨c0, c1, c2, c3, c4, c5, c6, c7, c8, c9, c10⟩ := kP.c11; have g0 := cell_later kB HLk.out.1; have g1 := cell_later kB HQ0.out; have y0 := kP.lt; have y1 := World.block_lt_of_cell? _ _ g0; have y2 := World.block_lt_of_cell? _ _ g1;go_simp; (try with_reducible rfl)
      (try simp only [cq])
      refine wpAnyH_ready (rs := [12]) (by kernel_rfl) (by simp) ?_
      refine arc1 (some 28) fun K hK => ?_
      go_simp
      (refine (HFk.out _).mono ?_; rintro e w' ⟨rfl, hb⟩)
      refine hK.out _ _ ?_ ?_
      · (exact ⟨hH.1.call hb, hH.2.1.call hb, hH.2.2.1.call hb, bwS hH.2.2.2 (Nat.le_refl _) hb⟩)
      (try clear hH); (try clear hb)
      intro hH
      clear hK K
      (try simp only [cq])
      refine wpAnyH_ready (rs := [13]) (by kernel_rfl) (by simp) ?_
      refine arc1 (some 29) fun K hK => ?_
      go_simp
      (refine (HPk.out _ hH.2.2.2).mono ?_; rintro e w' ⟨rfl, hb⟩)
      refine hK.out _ _ ?_ ?_
      · (exact ⟨hH.1.call hb, hH.2.1.call hb, hH.2.2.1.call hb, bwS hH.2.2.2 (Nat.le_refl _) hb⟩)
      (try clear hH); (try clear hb)
      intro hH
      clear hK K
      (try simp only [cq])
      refine tkY 14 (some 9) ?_ ?_ ?_
      rotate_left
      · intro w _; go_simp; (try with_reducible rfl)
      (try simp only [cq])
      refine wpAnyH_done (by kernel_rfl) ?_ _
      (try dsimp only [Act.put])
      (try simp only [cq])
      clear jP j6 j7 jB HPk HFk
      obtain ⟨jP, j6, j7, jB⟩ := hH
      obtain ⟨⟨t0, t1⟩, ⟨t2, t3⟩⟩ := HTs.out
      clear HTs
      have ew0 : IntKind.i64.wrap (x.w0 * pv) = x.w0 * pv := IntWalk.i64_in _ (by omega)
      have ew1 : IntKind.i64.wrap (x.w1 * pv) = x.w1 * pv := IntWalk.i64_in _ (by omega)
      have ew2 : IntKind.i64.wrap (u0 + x.w0 * pv) = s0 := by rw [← HS0.out]; exact IntWalk.i64_in _ (by rw [HS0.out]; omega)
      have ew3 : IntKind.i64.wrap (u1 + x.w1 * pv) = s1 := by rw [← HS1.out]; exact IntWalk.i64_in _ (by rw [HS1.out]; omega)
      clear t0 t1 t2 t3 t4 t5 t6 t7 HS0 HS1
      go_upto_region 6 with fail
      refine region_tail 23 (by kernel_rfl) (by kernel_rfl) (fun U hU => ?_)
      replace jP := jP.drew
      replace j6 := j6.drew
      replace j7 := j7.drew
      replace jB := jB.drew
      rw [hU] at jP j6 j7 jB
      clear hU
      have g1 := cell_later jB HLk.out.2.1
      have g2 := cell_later jB HLk.out.2.2.1
      have y1 := World.block_lt_of_cell? _ _ g1
      obtain ⟨r0, r1⟩ := j7.c2
      have f0 := j7.free 0
      have f1 := j7.free 1
      have z7 := j7.lt
      simp only [List.take_succ_cons, List.take_zero, List.drop_succ_cons, List.drop_zero]
      repeat still_step
      refine wpStill_nil ?_
      have kP := (jP.other ⟨b7, 0, none⟩ (.int .i64 s0) (by simp; omega)).other ⟨b7, 1, none⟩ (.int .i64 s1) (by simp; omega)
      have k6 := (j6.other ⟨b7, 0, none⟩ (.int .i64 s0) (by simp; omega)).other ⟨b7, 1, none⟩ (.int .i64 s1) (by simp; omega)
      have k7 : Blk ((U.setCell ⟨b7, 0, none⟩ (.int .i64 s0)).setCell ⟨b7, 1, none⟩ (.int .i64 s1)) b7 #[.int .i64 s0, .int .i64 s1] 23 := ((j7.set 0 (.int .i64 s0)).set 1 (.int .i64 s1)).eq (by simp)
      have kB := (jB.setCell (p := ⟨b7, 0, none⟩) (by simp; omega) (.int .i64 s0)).setCell (p := ⟨b7, 1, none⟩) (by simp; omega) (.int .i64 s1)
      go_wp2
      go_roundw
      case rel => exact ⟨k + 1, by omega, by go_num, kP, k6, by rw [HE0.out, HE1.out]; exact k7, kB⟩
      case measure => simp [intOf]; omega
    · have hkn : n = k := by omega
      subst hkn
      obtain ⟨u0, hu0⟩ : ∃ u, burdV p true n L a = u := ⟨_, rfl⟩
      obtain ⟨u1, hu1⟩ : ∃ u, burdV p false n L a = u := ⟨_, rfl⟩
      rw [hu0, hu1] at j7
      have HU := Lib.hid (And.intro hu0 hu1)
      clear hu0 hu1 HP HF HT HL
      obtain ⟨r0, r1⟩ := j7.c2
      obtain ⟨q1, q2⟩ := j6.c2
      have f0 := j6.free 0
      have f1 := j6.free 1
      have z7 := j7.lt
      have z6 := j6.lt
      have k6 : Blk ((wr.setCell ⟨b6, 0, none⟩ (.int .i64 u0)).setCell ⟨b6, 1, none⟩ (.int .i64 u1)) b6 #[.int .i64 u0, .int .i64 u1] 23 := ((j6.set 0 (.int .i64 u0)).set 1 (.int .i64 u1)).eq (by simp)
      have kB := (jB.setCell (p := ⟨b6, 0, none⟩) (by simp; omega) (.int .i64 u0)).setCell (p := ⟨b6, 1, none⟩) (by simp; omega) (.int .i64 u1)
      obtain ⟨e0, e1⟩ := k6.c2
      go_wp2
      exact bodyPost_ret (v := .agg #[.int .i64 u0, .int .i64 u1]) (by simp [results, Try.results129, go_sem, e0, e1]) rfl ⟨by rw [HU.out.1, HU.out.2], kB⟩
end Go.Proofs.Ytfakmggabicdjaa

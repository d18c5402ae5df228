/-
  The reference's Row: where all is valid.
-/
import Derived.Test.YtfakmggabicdjaaTail
import Derived.Test.YtfakmggabicdjaaRB4
import Derived.Test.YtfakmggabicdjaaGapN
set_option linter.unusedVariables false
set_option linter.unusedSimpArgs false
namespace Go.Proofs.Ytfakmggabicdjaa
open Go.RowKit

theorem val_zero {t : Tab} (h : t.Ok) : t.val 0 = 1000000 := by
  rw [h.val_eq (k := 0) (by have := h.n1; omega) (by rw [h.f0]; omega) (fun q => by have := (h.next 0 q).1; rw [h.f0] at this; exact this), h.p0]
set_option maxRecDepth 100000 in
set_option maxHeartbeats 16000000 in
theorem rrow_any (p : Pl) (hp : p.Ok) (vS vC vW : Value) (th : Int) (ht : 0 ≤ th ∧ th ≤ 5000) (n : Nat) (W0 W1 : Nat → Int) (hn : n ≤ 30) (hW : ∀ i, i < n → 0 ≤ W0 i ∧ W0 i ≤ W1 i ∧ W1 i ≤ 200000) (g : Int) (hg : 0 ≤ g ∧ g ≤ 10000) (w : World) (hS : TabAt w vS p.S) (hC : TabAt w vC p.C) (hw : PairsAt w vW n W0 W1) :
    Calls Try.prog 101 #[.agg #[.int .i64 p.s0, .int .i64 p.s1, vS, vC, .int .i64 p.ne, .int .i64 p.ed, .int .i64 p.gr, .int .i64 p.lo, .int .i64 p.hi, .int .i64 p.sh, .int .i64 p.wi], .int .i64 th, vW, .int .i64 g] w fun e w' => e = .returned (.bool (rowV p th W0 W1 n g)) ∧ Below w.heap.size w w' := by
  obtain ⟨aS, cS, rfl, _, _, _⟩ := id hS
  obtain ⟨aC, cC, rfl, _, _, _⟩ := id hC
  obtain ⟨aW, cW, rfl, hcW, hmW, h3⟩ := hw
  have H3 := Lib.hid h3
  have HP : Hid (∀ i k : Nat, i < n → k < n → ∀ W, Below w.heap.size w W → Calls Try.prog 109 #[.slice aS p.S.n cS, .int .i64 (farV (i : Int) (k : Int) * g)] W fun e w' => e = .returned (.int .i64 (p.S.val (farV (i : Int) (k : Int) * g))) ∧ Below W.heap.size W w') := fun i k hi hk W hW' =>
    rpart_any _ p.S _ W (PairsAt.later hS hW') hp.S.n1 (by rw [hp.S.f0]; exact Int.mul_nonneg (by unfold farV; omega) hg.1)
  have HF : Hid (∀ i k : Nat, i < n → k < n → ∀ W, Calls Try.prog 135 #[.int .i64 i, .int .i64 k] W fun e w' => e = .returned (.int .i64 (farV (i : Int) (k : Int))) ∧ Below W.heap.size W w') := fun i k hi hk W => rfar_any _ _ (by omega) (by omega) W
  have HG : Hid (∀ i k : Nat, i < n → k < n → 0 ≤ farV (i : Int) (k : Int) * g ∧ farV (i : Int) (k : Int) * g ≤ 300000) := fun i k hi hk => by
    have f0 : 0 ≤ farV (i : Int) (k : Int) := by unfold farV; omega
    have f1 : farV (i : Int) (k : Int) ≤ 30 := by unfold farV; omega
    have m1 := Int.mul_le_mul f1 hg.2 hg.1 (by omega : (0 : Int) ≤ 30)
    exact ⟨Int.mul_nonneg f0 hg.1, by omega⟩
  have hLd : ∀ i, i < n → 0 ≤ (rowL W0 W1 g i).w0 ∧ (rowL W0 W1 g i).w0 ≤ (rowL W0 W1 g i).w1 ∧ (rowL W0 W1 g i).w1 ≤ 200000 := hW
  have HT : Hid (∀ i k : Nat, k < n → (0 ≤ W1 k * p.S.val (farV (i : Int) (k : Int) * g) ∧ W1 k * p.S.val (farV (i : Int) (k : Int) * g) ≤ 200000000000) ∧ (0 ≤ burdV p false k (rowL W0 W1 g) (g * (i : Int)) ∧ burdV p false k (rowL W0 W1 g) (g * (i : Int)) ≤ 6000000000000) ∧ burdV p false (k + 1) (rowL W0 W1 g) (g * (i : Int)) = burdV p false k (rowL W0 W1 g) (g * (i : Int)) + W1 k * p.S.val (farV (i : Int) (k : Int) * g)) := fun i k hk => by
    have q := hW k hk
    have r := hp.S.val_in (farV (i : Int) (k : Int) * g)
    refine ⟨⟨Int.mul_nonneg (by omega) r.1, ?_⟩, burd_in hp false hn hLd (g * (i : Int)) k (by omega), ?_⟩
    · have := Int.mul_le_mul q.2.2 r.2 r.1 (by omega : (0:Int) ≤ 200000); omega
    · rw [Int.mul_comm (farV (i : Int) (k : Int)) g, ← far_times hg.1]; rfl
  have HZ : Hid (∀ i : Nat, burdV p false 0 (rowL W0 W1 g) (g * (i : Int)) = 0) := fun i => rfl
  have HI : Hid (∀ i : Nat, 0 ≤ burdV p false n (rowL W0 W1 g) (g * (i : Int)) ∧ burdV p false n (rowL W0 W1 g) (g * (i : Int)) ≤ 6000000000000) := fun i => burd_in hp false hn hLd (g * (i : Int)) n (Nat.le_refl _)
  obtain ⟨f, hf⟩ : ∃ f : Nat → Bool, f = rowB p th W0 W1 n g := ⟨_, rfl⟩
  have HB : Hid (∀ i : Nat, f i = decide (burdV p false n (rowL W0 W1 g) (g * (i : Int)) * 1000000 ≤ p.s0 * th * th * 1000000)) := fun i => by
    rw [hf]; unfold rowB limV; rw [val_zero hp.C]; simp [endV]
  have HR : Hid (rowV p th W0 W1 n g = allB f n) := by rw [hf]; rfl
  have HBo : Hid (∀ bu : Int, 0 ≤ bu ∧ bu ≤ 6000000000000 → ∀ W, Calls Try.prog 130 #[.int .i64 bu, .int .i64 p.s0, .int .i64 th, .int .i64 1000000] W fun e w' => e = .returned (.bool (decide (bu * 1000000 ≤ p.s0 * th * th * 1000000))) ∧ Below W.heap.size W w') := fun bu hb W =>
    rborne_any bu p.s0 th 1000000 hb (by have := hp.s0; have := hp.s01; have := hp.s1; omega) ht (by omega) W
  have hT : (∀ i, i < n → f i = true) → allB f n = true := fun h => (allB_iff f n).2 h
  have hF : ∀ k, k < n → f k = false → allB f n = false := fun k hk h => by
    cases e : allB f n with
    | false => rfl
    | true => rw [(allB_iff f n).1 e k hk] at h; simp at h
  have HTT := Lib.hid hT
  have HFF := Lib.hid hF
  rw [HR.out]
  clear hT hF HR hf hLd
  generalize allB f n = r at HTT HFF ⊢
  obtain ⟨B, hBd⟩ : ∃ B : Nat → Nat → Int, B = fun (i k : Nat) => burdV p false k (rowL W0 W1 g) (g * (i : Int)) := ⟨_, rfl⟩
  have eB : ∀ i k : Nat, burdV p false k (rowL W0 W1 g) (g * (i : Int)) = B i k := fun i k => by rw [hBd]
  simp only [eB] at HT HZ HB HI
  clear eB hBd
  have jP := Blk.new w #[.int .i64 p.s0, .int .i64 p.s1, (.slice aS p.S.n cS), (.slice aC p.C.n cC), .int .i64 p.ne, .int .i64 p.ed, .int .i64 p.gr, .int .i64 p.lo, .int .i64 p.hi, .int .i64 p.sh, .int .i64 p.wi] 26
  have jB : Below w.heap.size w (w.alloc (.cells #[.int .i64 p.s0, .int .i64 p.s1, (.slice aS p.S.n cS), (.slice aC p.C.n cC), .int .i64 p.ne, .int .i64 p.ed, .int .i64 p.gr, .int .i64 p.lo, .int .i64 p.hi, .int .i64 p.sh, .int .i64 p.wi] 26)) := by (repeat (first | exact Below.refl _ _ | assumption | refine Below.drew ?_ | refine Below.drewN ?_ _ | refine blT ?_ | refine blU ?_))
  clear hS hC h3 hp ht hW hg
  go_enter Try.func101, Try.ntmps101
  go_upto_region 1 with fail
  obtain ⟨bP, hbP⟩ : ∃ b, w.heap.size = b := ⟨_, rfl⟩
  rw [hbP] at jP
  (try rw [hbP])
  have zwP : w.heap.size ≤ bP := by omega
  clear hbP
  generalize w.alloc (.cells #[.int .i64 p.s0, .int .i64 p.s1, (.slice aS p.S.n cS), (.slice aC p.C.n cC), .int .i64 p.ne, .int .i64 p.ed, .int .i64 p.gr, .int .i64 p.lo, .int .i64 p.hi, .int .i64 p.sh, .int .i64 p.wi] 26) = V at jP jB ⊢
  go_wp2_with fail
  go_loopw [9, 10, 11] (fun i _ _ wr => ∃ k : Nat, i = .int .i64 k ∧ k ≤ n ∧ (∀ j, j < k → f j = true) ∧ Blk wr bP #[.int .i64 p.s0, .int .i64 p.s1, (.slice aS p.S.n cS), (.slice aC p.C.n cC), .int .i64 p.ne, .int .i64 p.ed, .int .i64 p.gr, .int .i64 p.lo, .int .i64 p.hi, .int .i64 p.sh, .int .i64 p.wi] 26 ∧ Below w.heap.size w wr) (fun i _ _ _ => n - (intOf i).toNat)
  case atStart => exact ⟨0, rfl, Nat.zero_le _, fun j hj => by omega, jP, jB⟩
  case round =>
    clear jP jB
    obtain ⟨i0, rfl, hk, hj, jP, jB⟩ := hrel
    have HJ := Lib.hid hj
    clear hj
    by_cases hlt2 : i0 < n
    · have hin : (i0 : Int) < (n : Int) := by omega
      have h00 := HZ.out i0
      go_wp2_with fail
      go_loopw [10, 11] (fun u i wr => ∃ k : Nat, i = .int .i64 k ∧ u = .int .i64 (B i0 k) ∧ k ≤ n ∧ Blk wr bP #[.int .i64 p.s0, .int .i64 p.s1, (.slice aS p.S.n cS), (.slice aC p.C.n cC), .int .i64 p.ne, .int .i64 p.ed, .int .i64 p.gr, .int .i64 p.lo, .int .i64 p.hi, .int .i64 p.sh, .int .i64 p.wi] 26 ∧ Below w.heap.size w wr) (fun _ i _ => n - (intOf i).toNat)
      case atStart => exact ⟨0, rfl, by rw [h00], Nat.zero_le _, jP, jB⟩
      case round =>
        clear jP jB h00
        obtain ⟨k, rfl, rfl, hk2, jP, jB⟩ := hrel
        by_cases hlt3 : k < n
        · obtain ⟨⟨t0, t1⟩, ⟨t2, t3⟩, hs1⟩ := HT.out i0 k hlt3
          obtain ⟨b, o, ha, hc⟩ := H3.out (by omega)
          subst ha
          have hkn : (k : Int) < (n : Int) := by omega
          have a1 := (hc k hlt3).2
          clear hc
          have HA := Lib.hid a1
          clear a1
          obtain ⟨gg0, gg1⟩ := HG.out i0 k hlt2 hlt3
          have HPk := Lib.hid (HP.out i0 k hlt2 hlt3)
          have HFk := Lib.hid (HF.out i0 k hlt2 hlt3)
          obtain ⟨s1, hs⟩ : ∃ s, B i0 (k + 1) = s := ⟨_, rfl⟩
          rw [hs] at hs1
          have HE1 := Lib.hid hs
          clear hs
          generalize B i0 k = u1 at t2 t3 hs1
          generalize p.S.val (farV (i0 : Int) (k : Int) * g) = pv at HPk hs1 t0 t1
          generalize farV (i0 : Int) (k : Int) = fv at HPk HFk gg0 gg1
          generalize W1 k = x1 at HA hs1 t0 t1
          have ew0 : IntKind.i64.wrap (fv * g) = fv * g := IntWalk.i64_in _ (by omega)
          have ew1 : IntKind.i64.wrap (x1 * pv) = x1 * pv := IntWalk.i64_in _ (by omega)
          have ew2 : IntKind.i64.wrap (u1 + x1 * pv) = s1 := by rw [← hs1]; exact IntWalk.i64_in _ (by rw [hs1]; omega)
          clear hs1 t0 t1 t2 t3 gg0 gg1
          go_upto_region 8 with fail
          refine wp_region_held_drew (S := (fun v => Blk v bP #[.int .i64 p.s0, .int .i64 p.s1, (.slice aS p.S.n cS), (.slice aC p.C.n cC), .int .i64 p.ne, .int .i64 p.ed, .int .i64 p.gr, .int .i64 p.lo, .int .i64 p.hi, .int .i64 p.sh, .int .i64 p.wi] 26 ∧ Below w.heap.size w v)) (by kernel_rfl) ?_ (fun hH => ?_)
          · (try dsimp only); (exact ⟨jP.drew, jB.drew⟩)
          refine tkY 0 (some 24) ?_ ?_ ?_
          rotate_left
          · intro w _; go_simp; (try with_reducible rfl)
          (try simp only [cq])
          refine tkY 1 (some 25) ?_ ?_ ?_
          rotate_left
          · intro w _; go_simp; (try with_reducible rfl)
          (try simp only [cq])
          refine tkY 2 (some 26) ?_ ?_ ?_
          rotate_left
          · intro w _; go_simp; (try with_reducible rfl)
          (try simp only [cq])
          refine tkY 3 (some 27) ?_ ?_ ?_
          rotate_left
          · intro w hS0; (try dsimp only at hS0); obtain ⟨kP, kB⟩ := hS0; obtain ⟨c0, c1, c2, c3, c4, c5, c6, c7, c8, c9, c10⟩ := kP.c11; have g0 := cell_later kB HA.out; have y0 := kP.lt; have y1 := World.block_lt_of_cell? _ _ g0;go_simp; (try with_reducible rfl)
          (try simp only [cq])
          refine tkY 4 (some 28) ?_ ?_ ?_
          rotate_left
          · intro w hS0; (try dsimp only at hS0); obtain ⟨kP, kB⟩ := hS0; obtain ⟨c0, c1, c2, c3, c4, c5, c6, c7, c8, c9, c10⟩ := kP.c11; have g0 := cell_later kB HA.out; have y0 := kP.lt; have y1 := World.block_lt_of_cell? _ _ g0;go_simp; (try with_reducible rfl)
          (try simp only [cq])
          refine tkY 5 (some 29) ?_ ?_ ?_
          rotate_left
          · intro w hS0; (try dsimp only at hS0); obtain ⟨kP, kB⟩ := hS0; obtain ⟨c0, c1, c2, c3, c4, c5, c6, c7, c8, c9, c10⟩ := kP.c11; have g0 := cell_later kB HA.out; have y0 := kP.lt; have y1 := World.block_lt_of_cell? _ _ g0;go_simp; (try with_reducible rfl)
          (try simp only [cq])
          refine tkY 6 (some 30) ?_ ?_ ?_
          rotate_left
          · intro w hS0; (try dsimp only at hS0); obtain ⟨kP, kB⟩ := hS0; obtain ⟨c0, c1, c2, c3, c4, c5, c6, c7, c8, c9, c10⟩ := kP.c11; have g0 := cell_later kB HA.out; have y0 := kP.lt; have y1 := World.block_lt_of_cell? _ _ g0;go_simp; (try with_reducible rfl)
          (try simp only [cq])
          refine tkY 7 (some 31) ?_ ?_ ?_
          rotate_left
          · intro w hS0; (try dsimp only at hS0); obtain ⟨kP, kB⟩ := hS0; obtain ⟨c0, c1, c2, c3, c4, c5, c6, c7, c8, c9, c10⟩ := kP.c11; have g0 := cell_later kB HA.out; have y0 := kP.lt; have y1 := World.block_lt_of_cell? _ _ g0;go_simp; (try with_reducible rfl)
          (try simp only [cq])
          refine tkY 8 (some 32) ?_ ?_ ?_
          rotate_left
          · intro w _; go_simp; (try with_reducible rfl)
          (try simp only [cq])
          refine tkY 9 (some 33) ?_ ?_ ?_
          rotate_left
          · intro w _; go_simp; (try with_reducible rfl)
          (try simp only [cq])
          refine tkY 11 (some 35) ?_ ?_ ?_
          rotate_left
          · intro w _; go_simp; (try with_reducible rfl)
          (try simp only [cq])
          refine wpAnyH_ready (rs := [10]) (by kernel_rfl) (by simp) ?_
          refine arc1 (some 34) fun K hK => ?_
          go_simp
          (refine (HFk.out _).mono ?_; rintro e w' ⟨rfl, hb⟩)
          refine hK.out _ _ ?_ ?_
          · (exact ⟨hH.1.call hb, bwS hH.2 (Nat.le_refl _) hb⟩)
          (try clear hH); (try clear hb)
          intro hH
          clear hK K
          (try simp only [cq])
          refine tkY 12 (some 36) ?_ ?_ ?_
          rotate_left
          · intro w _; go_simp; (try with_reducible rfl)
          (try simp only [cq])
          refine wpAnyH_ready (rs := [13]) (by kernel_rfl) (by simp) ?_
          refine arc1 (some 37) fun K hK => ?_
          go_simp
          (refine (HPk.out _ hH.2).mono ?_; rintro e w' ⟨rfl, hb⟩)
          refine hK.out _ _ ?_ ?_
          · (exact ⟨hH.1.call hb, bwS hH.2 (Nat.le_refl _) hb⟩)
          (try clear hH); (try clear hb)
          intro hH
          clear hK K
          (try simp only [cq])
          refine tkY 14 (some 38) ?_ ?_ ?_
          rotate_left
          · intro w _; go_simp; (try with_reducible rfl)
          (try simp only [cq])
          refine tkY 15 (some 39) ?_ ?_ ?_
          rotate_left
          · intro w _; go_simp; (try with_reducible rfl)
          (try simp only [cq])
          refine tkY 16 (some 10) ?_ ?_ ?_
          rotate_left
          · intro w _; go_simp; (try with_reducible rfl)
          (try simp only [cq])
          refine wpAnyH_done (by kernel_rfl) ?_ _
          (try dsimp only [Act.put])
          (try simp only [cq])
          clear jP jB HPk HFk
          obtain ⟨jP, jB⟩ := hH
          go_wp2
          go_roundw
          case rel => exact ⟨k + 1, by go_num, by rw [HE1.out], by omega, jP, jB⟩
          case measure => simp [intOf]; omega
        · obtain rfl : k = n := by omega
          have HBi := Lib.hid (HB.out i0)
          have hI := HI.out i0
          generalize B i0 k = u1 at HBi hI
          have HBn := Lib.hid (HBo.out u1 hI)
          obtain ⟨y, hy⟩ : ∃ y, decide (u1 * 1000000 ≤ p.s0 * th * th * 1000000) = y := ⟨_, rfl⟩
          rw [hy] at HBi HBn
          clear hy hI
          obtain ⟨c0, c1, c2, c3, c4, c5, c6, c7, c8, c9, c10⟩ := jP.c11
          have zP := jP.lt
          go_wp2_with fail
          clear c0 c1 c2 c3 c4 c5 c6 c7 c8 c9 c10 zP
          refine (HBn.out _).mono ?_
          rintro e w5 ⟨rfl, hb⟩
          replace jP := jP.call hb
          replace jB := bwS jB (Nat.le_refl _) hb
          clear hb HBn
          cases y with
          | true =>
            go_wp2
            go_roundw
            case rel => exact ⟨i0 + 1, by go_num, by omega, fun j hj => by
                by_cases e : j = i0
                · subst e; exact HBi.out
                · exact HJ.out j (by omega), jP, jB⟩
            case measure => simp [intOf]; omega
          | false =>
            have hr := HFF.out i0 hlt2 HBi.out
            subst hr
            go_wp2
            go_ret
            exact ⟨rfl, jB⟩
    · have hr := HTT.out (fun i hi => HJ.out i (by omega))
      subst hr
      go_wp2
      go_ret
      exact ⟨rfl, jB⟩
end Go.Proofs.Ytfakmggabicdjaa

/-
  Burdens, thickness, verdicts on loads (package bear).
-/
import Derived.Test.YtkkljbbgaogifaaTail
import Derived.Test.YtkkljbbgaogifaaLim
set_option linter.unusedVariables false
set_option linter.unusedSimpArgs false
namespace Go.Proofs.Ytkkljbbgaogifaa
open Go.RowKit

structure LoadsIn (n : Nat) (L : Nat → Ld) : Prop where
  n30 : n ≤ 30
  each : ∀ i, i < n → 0 ≤ (L i).w0 ∧ (L i).w0 ≤ (L i).w1 ∧ (L i).w1 ≤ 200000 ∧ 0 ≤ (L i).me ∧ (L i).me ≤ 1000000000 ∧ 0 ≤ (L i).st

set_option maxHeartbeats 2000000 in
theorem burden_any (p : Pl) (hp : p.Ok) (b : Bool) (vS vC vL : Value) (n : Nat) (L : Nat → Ld) (hn : LoadsIn n L) (m : Int) (hm : -1000000000 ≤ m ∧ m ≤ 1000000000) (w : World) (hL : LoadsAt w vL n L) (hS : TabAt w vS p.S) :
    Calls Try.prog 143 #[.agg #[.bool b, .int .i64 p.s0, .int .i64 p.s1, vS, vC, .int .i64 p.ne, .int .i64 p.ed, .int .i64 p.gr, .int .i64 p.lo, .int .i64 p.hi, .int .i64 p.sh, .int .i64 p.wi], vL, .int .i64 m] w fun e w' => e = .returned (.int .i64 (burdV p b n L m)) ∧ Below w.heap.size w w' := by
  obtain ⟨a, cap, rfl, hcap, hl, h3⟩ := hL
  have H3 := Lib.hid h3
  have HP : Hid (∀ k : Nat, k < n → ∀ W, Below w.heap.size w W → Calls Try.prog 140 #[vS, .int .i64 (max (m - (L k).me) ((L k).me - m))] W fun e w' => e = .returned (.int .i64 (p.S.val (farV m (L k).me))) ∧ Below W.heap.size W w') := fun k hk W hW =>
    part_any vS p.S hp.S _ (by have h1 := Int.le_max_left (m - (L k).me) ((L k).me - m); have h2 := Int.le_max_right (m - (L k).me) ((L k).me - m); omega) W (hS.later hW)
  have HT : Hid (∀ k : Nat, k < n → (0 ≤ endV (!b) (L k).w0 (L k).w1 * p.S.val (farV m (L k).me) ∧ endV (!b) (L k).w0 (L k).w1 * p.S.val (farV m (L k).me) ≤ 200000000000) ∧ (0 ≤ burdV p b k L m ∧ burdV p b k L m ≤ 6000000000000) ∧ burdV p b (k + 1) L m = burdV p b k L m + endV (!b) (L k).w0 (L k).w1 * p.S.val (farV m (L k).me) ∧ 0 ≤ (L k).me ∧ (L k).me ≤ 1000000000) := fun k hk =>
    have q := hn.each k hk
    ⟨term_in hp b ⟨q.1, q.2.1, q.2.2.1⟩ _, burd_in hp b hn.n30 (fun i hi => ⟨(hn.each i hi).1, (hn.each i hi).2.1, (hn.each i hi).2.2.1⟩) m k (by omega), rfl, q.2.2.2.1, q.2.2.2.2.1⟩
  have hn30 := hn.n30
  clear h3 hn hS hp
  have jP := Blk.new w #[.bool b, .int .i64 p.s0, .int .i64 p.s1, vS, vC, .int .i64 p.ne, .int .i64 p.ed, .int .i64 p.gr, .int .i64 p.lo, .int .i64 p.hi, .int .i64 p.sh, .int .i64 p.wi] 127
  have jB : Below w.heap.size w (w.alloc (.cells #[.bool b, .int .i64 p.s0, .int .i64 p.s1, vS, vC, .int .i64 p.ne, .int .i64 p.ed, .int .i64 p.gr, .int .i64 p.lo, .int .i64 p.hi, .int .i64 p.sh, .int .i64 p.wi] 127)) := by (repeat (first | exact Below.refl _ _ | assumption | refine Below.drew ?_ | refine Below.drewN ?_ _ | refine blT ?_ | refine blU ?_))
  go_enter Try.func143, Try.ntmps143
  go_wp2_with fail
  go_loopw [7, 12] (fun s i wr => ∃ k : Nat, k ≤ n ∧ i = .int .i64 k ∧ s = .int .i64 (burdV p b k L m) ∧ Blk wr w.heap.size #[.bool b, .int .i64 p.s0, .int .i64 p.s1, vS, vC, .int .i64 p.ne, .int .i64 p.ed, .int .i64 p.gr, .int .i64 p.lo, .int .i64 p.hi, .int .i64 p.sh, .int .i64 p.wi] 127 ∧ Below w.heap.size w wr) (fun _ i _ => n - (intOf i).toNat)
  case atStart => exact ⟨0, Nat.zero_le _, rfl, rfl, jP, jB⟩
  case round =>
    clear jP jB
    obtain ⟨k, hk, rfl, rfl, jP, hB⟩ := hrel
    by_cases hlt2 : k < n
    · obtain ⟨bk, o, ha, hc⟩ := H3.out (by omega)
      subst ha
      obtain ⟨a0, a1, a2, a3⟩ := hc k hlt2
      clear hc
      replace a0 := cell_later hB a0
      replace a1 := cell_later hB a1
      replace a2 := cell_later hB a2
      replace a3 := cell_later hB a3
      have hbs := World.block_lt_of_cell? _ _ a0
      have hws : w.heap.size ≤ wr.heap.size := hB.size
      have zP := jP.lt
      have HPk := Lib.hid (HP.out k hlt2)
      obtain ⟨ht, hb0, hst, hme⟩ := HT.out k hlt2
      generalize L k = x at a0 a1 a2 a3 HPk ht hst hme
      generalize burdV p b k L m = s at hb0 hst ⊢
      have e1 : IntKind.i64.wrap (m - x.me) = m - x.me := IntWalk.i64_in _ (by omega)
      have e2 : IntKind.i64.wrap (x.me - m) = x.me - m := IntWalk.i64_in _ (by omega)
      generalize p.S.val (farV m x.me) = pv at HPk ht hst
      generalize hev : endV (!b) x.w0 x.w1 = ev at ht hst
      have HE := Lib.hid hev
      have e3 : IntKind.i64.wrap (ev * pv) = ev * pv := IntWalk.i64_in _ (by omega)
      have e4 : IntKind.i64.wrap (s + ev * pv) = s + ev * pv := IntWalk.i64_in _ (by omega)
      have HS' := Lib.hid hst
      clear hev ht hb0 hst HP HT
      go_upto_region 5 with fail
      have kP := jP.alloc (.cells #[.int .i64 x.me, .int .i64 x.w0, .int .i64 x.w1, .int .i64 x.st] 53)
      have kX := Blk.new wr #[.int .i64 x.me, .int .i64 x.w0, .int .i64 x.w1, .int .i64 x.st] 53
      have kB : Below w.heap.size w (wr.alloc (.cells #[.int .i64 x.me, .int .i64 x.w0, .int .i64 x.w1, .int .i64 x.st] 53)) := bwA hB (Nat.le_refl _) _
      clear jP hB a0 a1 a2 a3
      refine wp_region_held_drew (S := (fun w' => Blk w' w.heap.size #[.bool b, .int .i64 p.s0, .int .i64 p.s1, vS, vC, .int .i64 p.ne, .int .i64 p.ed, .int .i64 p.gr, .int .i64 p.lo, .int .i64 p.hi, .int .i64 p.sh, .int .i64 p.wi] 127 ∧ Blk w' wr.heap.size #[.int .i64 x.me, .int .i64 x.w0, .int .i64 x.w1, .int .i64 x.st] 53 ∧ Below w.heap.size w w')) (by kernel_rfl) ?_ (fun hH => ?_)
      · (try dsimp only); (exact ⟨kP.drew, kX.drew, kB.drew⟩)
      refine tkY 0 (some 16) ?_ ?_ ?_
      rotate_left
      · intro w _; go_simp; (try with_reducible rfl)
      (try simp only [cq])
      refine tkY 1 (some 17) ?_ ?_ ?_
      rotate_left
      · intro w hS0; (try dsimp only at hS0); obtain ⟨kP, kX, _⟩ := hS0; obtain ⟨c0, c1, c2, c3, c4, c5, c6, c7, c8, c9, c10, c11⟩ := kP.c12; obtain ⟨x0, x1, x2, x3⟩ := kX.c4; have y1 := kP.lt; have y2 := kX.lt;go_simp; (try with_reducible rfl)
      (try simp only [cq])
      refine tkY 2 (some 18) ?_ ?_ ?_
      rotate_left
      · intro w hS0; (try dsimp only at hS0); obtain ⟨kP, kX, _⟩ := hS0; obtain ⟨c0, c1, c2, c3, c4, c5, c6, c7, c8, c9, c10, c11⟩ := kP.c12; obtain ⟨x0, x1, x2, x3⟩ := kX.c4; have y1 := kP.lt; have y2 := kX.lt;go_simp; (try with_reducible rfl)
      (try simp only [cq])
      refine tkY 3 (some 19) ?_ ?_ ?_
      rotate_left
      · intro w hS0; (try dsimp only at hS0); obtain ⟨kP, kX, _⟩ := hS0; obtain ⟨c0, c1, c2, c3, c4, c5, c6, c7, c8, c9, c10, c11⟩ := kP.c12; obtain ⟨x0, x1, x2, x3⟩ := kX.c4; have y1 := kP.lt; have y2 := kX.lt;go_simp; (try with_reducible rfl)
      (try simp only [cq])
      refine tkY 4 (some 20) ?_ ?_ ?_
      rotate_left
      · intro w hS0; (try dsimp only at hS0); obtain ⟨kP, kX, _⟩ := hS0; obtain ⟨c0, c1, c2, c3, c4, c5, c6, c7, c8, c9, c10, c11⟩ := kP.c12; obtain ⟨x0, x1, x2, x3⟩ := kX.c4; have y1 := kP.lt; have y2 := kX.lt;go_simp; (try with_reducible rfl)
      (try simp only [cq])
      refine tkY 6 (some 22) ?_ ?_ ?_
      rotate_left
      · intro w hS0; (try dsimp only at hS0); obtain ⟨kP, kX, _⟩ := hS0; obtain ⟨c0, c1, c2, c3, c4, c5, c6, c7, c8, c9, c10, c11⟩ := kP.c12; obtain ⟨x0, x1, x2, x3⟩ := kX.c4; have y1 := kP.lt; have y2 := kX.lt;go_simp; (try with_reducible rfl)
      (try simp only [cq])
      refine tkY 7 (some 23) ?_ ?_ ?_
      rotate_left
      · intro w hS0; (try dsimp only at hS0); obtain ⟨kP, kX, _⟩ := hS0; obtain ⟨c0, c1, c2, c3, c4, c5, c6, c7, c8, c9, c10, c11⟩ := kP.c12; obtain ⟨x0, x1, x2, x3⟩ := kX.c4; have y1 := kP.lt; have y2 := kX.lt;go_simp; (try with_reducible rfl)
      (try simp only [cq])
      refine tkY 8 (some 24) ?_ ?_ ?_
      rotate_left
      · intro w hS0; (try dsimp only at hS0); obtain ⟨kP, kX, _⟩ := hS0; obtain ⟨c0, c1, c2, c3, c4, c5, c6, c7, c8, c9, c10, c11⟩ := kP.c12; obtain ⟨x0, x1, x2, x3⟩ := kX.c4; have y1 := kP.lt; have y2 := kX.lt;go_simp; (try with_reducible rfl)
      (try simp only [cq])
      refine tkY 9 (some 25) ?_ ?_ ?_
      rotate_left
      · intro w _; go_simp; (try with_reducible rfl)
      (try simp only [cq])
      refine tkY 10 (some 26) ?_ ?_ ?_
      rotate_left
      · intro w hS0; (try dsimp only at hS0); obtain ⟨kP, kX, _⟩ := hS0; obtain ⟨c0, c1, c2, c3, c4, c5, c6, c7, c8, c9, c10, c11⟩ := kP.c12; obtain ⟨x0, x1, x2, x3⟩ := kX.c4; have y1 := kP.lt; have y2 := kX.lt;go_simp; (try with_reducible rfl)
      (try simp only [cq])
      refine tkY 11 (some 27) ?_ ?_ ?_
      rotate_left
      · intro w hS0; (try dsimp only at hS0); obtain ⟨kP, kX, _⟩ := hS0; obtain ⟨c0, c1, c2, c3, c4, c5, c6, c7, c8, c9, c10, c11⟩ := kP.c12; obtain ⟨x0, x1, x2, x3⟩ := kX.c4; have y1 := kP.lt; have y2 := kX.lt;go_simp; (try with_reducible rfl)
      (try simp only [cq])
      refine tkY 12 (some 28) ?_ ?_ ?_
      rotate_left
      · intro w _; go_simp; (try with_reducible rfl)
      (try simp only [cq])
      refine tkY 13 (some 29) ?_ ?_ ?_
      rotate_left
      · intro w hS0; (try dsimp only at hS0); obtain ⟨kP, kX, _⟩ := hS0; obtain ⟨c0, c1, c2, c3, c4, c5, c6, c7, c8, c9, c10, c11⟩ := kP.c12; obtain ⟨x0, x1, x2, x3⟩ := kX.c4; have y1 := kP.lt; have y2 := kX.lt;go_simp; (try with_reducible rfl)
      (try simp only [cq])
      refine tkY 14 (some 30) ?_ ?_ ?_
      rotate_left
      · intro w hS0; (try dsimp only at hS0); obtain ⟨kP, kX, _⟩ := hS0; obtain ⟨c0, c1, c2, c3, c4, c5, c6, c7, c8, c9, c10, c11⟩ := kP.c12; obtain ⟨x0, x1, x2, x3⟩ := kX.c4; have y1 := kP.lt; have y2 := kX.lt;go_simp; (try with_reducible rfl)
      (try simp only [cq])
      refine tkY 15 (some 31) ?_ ?_ ?_
      rotate_left
      · intro w _; go_simp; (try with_reducible rfl)
      (try simp only [cq])
      refine tkY 16 (some 32) ?_ ?_ ?_
      rotate_left
      · intro w _; go_simp; (try with_reducible rfl)
      (try simp only [cq])
      refine tkY 17 (some 33) ?_ ?_ ?_
      rotate_left
      · intro w hS0; (try dsimp only at hS0); obtain ⟨kP, kX, _⟩ := hS0; obtain ⟨c0, c1, c2, c3, c4, c5, c6, c7, c8, c9, c10, c11⟩ := kP.c12; obtain ⟨x0, x1, x2, x3⟩ := kX.c4; have y1 := kP.lt; have y2 := kX.lt;go_simp; (try with_reducible rfl)
      (try simp only [cq])
      refine wpAnyH_ready (rs := [5]) (by kernel_rfl) (by simp) ?_
      refine arc1 (some 21) fun K hK => ?_
      go_simp
      (refine (less_any _ _ _ _).mono ?_; rw [HE.out]; rintro e w' ⟨rfl, hb⟩)
      refine hK.out _ _ ?_ ?_
      · (exact ⟨hH.1.call hb, hH.2.1.call hb, bwS hH.2.2 (Nat.le_refl _) hb⟩)
      (try clear hH); (try clear hb)
      intro hH
      clear hK K
      (try simp only [cq])
      refine wpAnyH_ready (rs := [18]) (by kernel_rfl) (by simp) ?_
      refine arc1 (some 34) fun K hK => ?_
      go_simp
      (refine (HPk.out _ hH.2.2).mono ?_; rintro e w' ⟨rfl, hb⟩)
      refine hK.out _ _ ?_ ?_
      · (exact ⟨hH.1.call hb, hH.2.1.call hb, bwS hH.2.2 (Nat.le_refl _) hb⟩)
      (try clear hH); (try clear hb)
      intro hH
      clear hK K
      (try simp only [cq])
      refine tkY 19 (some 35) ?_ ?_ ?_
      rotate_left
      · intro w _; go_simp; (try with_reducible rfl)
      (try simp only [cq])
      refine tkY 20 (some 36) ?_ ?_ ?_
      rotate_left
      · intro w _; go_simp; (try with_reducible rfl)
      (try simp only [cq])
      refine tkY 21 (some 7) ?_ ?_ ?_
      rotate_left
      · intro w _; go_simp; (try with_reducible rfl)
      (try simp only [cq])
      refine wpAnyH_done (by kernel_rfl) ?_ _
      (try dsimp only [Act.put])
      (try simp only [cq])
      obtain ⟨jP, _, hB⟩ := hH
      clear kP kX kB
      go_wp2
      go_roundw
      case rel => exact ⟨k + 1, by omega, by go_num, by rw [HS'.out], jP, hB⟩
      case measure => simp [intOf]; omega
    · obtain rfl : k = n := by omega
      go_wp2
      go_ret
      exact ⟨rfl, hB⟩

set_option maxHeartbeats 2000000 in
theorem bears_any (p : Pl) (hp : p.Ok) (b : Bool) (vS vC vL : Value) (thick : Int) (ht : 0 ≤ thick ∧ thick ≤ 5000) (n : Nat) (L : Nat → Ld) (hn : LoadsIn n L) (x : Ld) (hx : 0 ≤ x.me ∧ x.me ≤ 1000000000 ∧ 0 ≤ x.st) (w : World) (hL : LoadsAt w vL n L) (hS : TabAt w vS p.S) (hC : TabAt w vC p.C) :
    Calls Try.prog 126 #[.agg #[.bool b, .int .i64 p.s0, .int .i64 p.s1, vS, vC, .int .i64 p.ne, .int .i64 p.ed, .int .i64 p.gr, .int .i64 p.lo, .int .i64 p.hi, .int .i64 p.sh, .int .i64 p.wi], .int .i64 thick, vL, .agg #[.int .i64 x.me, .int .i64 x.w0, .int .i64 x.w1, .int .i64 x.st]] w fun e w' => e = .returned (.bool (decide (burdV p b n L x.me * 1000000 ≤ limV p b thick x.st))) ∧ Below w.heap.size w w' := by
  have HB : Hid (∀ W, Below w.heap.size w W → Calls Try.prog 143 #[.agg #[.bool b, .int .i64 p.s0, .int .i64 p.s1, vS, vC, .int .i64 p.ne, .int .i64 p.ed, .int .i64 p.gr, .int .i64 p.lo, .int .i64 p.hi, .int .i64 p.sh, .int .i64 p.wi], vL, .int .i64 x.me] W fun e w' => e = .returned (.int .i64 (burdV p b n L x.me)) ∧ Below W.heap.size W w') := fun W hW => burden_any p hp b vS vC vL n L hn x.me (by omega) W (hL.later hW) (hS.later hW)
  have HI : Hid (∀ W, Below w.heap.size w W → Calls Try.prog 111 #[.agg #[.bool b, .int .i64 p.s0, .int .i64 p.s1, vS, vC, .int .i64 p.ne, .int .i64 p.ed, .int .i64 p.gr, .int .i64 p.lo, .int .i64 p.hi, .int .i64 p.sh, .int .i64 p.wi], .int .i64 thick, .int .i64 x.st] W fun e w' => e = .returned (.int .i64 (limV p b thick x.st)) ∧ Below W.heap.size W w') := fun W hW => limit_any p hp b vS vC thick x.st ht hx.2.2 W (hC.later hW)
  have hb := burd_in hp b hn.n30 (fun i hi => ⟨(hn.each i hi).1, (hn.each i hi).2.1, (hn.each i hi).2.2.1⟩) x.me n (Nat.le_refl _)
  have e1 : IntKind.i64.wrap (burdV p b n L x.me * 1000000) = burdV p b n L x.me * 1000000 := IntWalk.i64_in _ (by unfold burdV; omega)
  generalize burdV p b n L x.me = bv at HB e1 ⊢
  generalize limV p b thick x.st = lv at HI ⊢
  clear hb hL hS hC hp hn hx ht
  have jP := (Blk.new w #[.bool b, .int .i64 p.s0, .int .i64 p.s1, vS, vC, .int .i64 p.ne, .int .i64 p.ed, .int .i64 p.gr, .int .i64 p.lo, .int .i64 p.hi, .int .i64 p.sh, .int .i64 p.wi] 127).alloc (.cells #[.int .i64 x.me, .int .i64 x.w0, .int .i64 x.w1, .int .i64 x.st] 53)
  have jX := Blk.new1 w (.cells #[.bool b, .int .i64 p.s0, .int .i64 p.s1, vS, vC, .int .i64 p.ne, .int .i64 p.ed, .int .i64 p.gr, .int .i64 p.lo, .int .i64 p.hi, .int .i64 p.sh, .int .i64 p.wi] 127) #[.int .i64 x.me, .int .i64 x.w0, .int .i64 x.w1, .int .i64 x.st] 53
  have jB : Below w.heap.size w ((w.alloc (.cells #[.bool b, .int .i64 p.s0, .int .i64 p.s1, vS, vC, .int .i64 p.ne, .int .i64 p.ed, .int .i64 p.gr, .int .i64 p.lo, .int .i64 p.hi, .int .i64 p.sh, .int .i64 p.wi] 127)).alloc (.cells #[.int .i64 x.me, .int .i64 x.w0, .int .i64 x.w1, .int .i64 x.st] 53)) := by (repeat (first | exact Below.refl _ _ | assumption | refine Below.drew ?_ | refine Below.drewN ?_ _ | refine blT ?_ | refine blU ?_))
  go_enter Try.func126, Try.ntmps126
  go_wp2_with fail
  refine wp_region_held_drew (S := (fun w' => Blk w' w.heap.size #[.bool b, .int .i64 p.s0, .int .i64 p.s1, vS, vC, .int .i64 p.ne, .int .i64 p.ed, .int .i64 p.gr, .int .i64 p.lo, .int .i64 p.hi, .int .i64 p.sh, .int .i64 p.wi] 127 ∧ Blk w' (w.heap.size + 1) #[.int .i64 x.me, .int .i64 x.w0, .int .i64 x.w1, .int .i64 x.st] 53 ∧ Below w.heap.size w w')) (by kernel_rfl) ?_ (fun hH => ?_)
  · (try dsimp only); (exact ⟨jP.drew, jX.drew, jB.drew⟩)
  refine tkY 0 (some 9) ?_ ?_ ?_
  rotate_left
  · intro w hS0; (try dsimp only at hS0); obtain ⟨kP, kX, _⟩ := hS0; obtain ⟨c0, c1, c2, c3, c4, c5, c6, c7, c8, c9, c10, c11⟩ := kP.c12; obtain ⟨x0, x1, x2, x3⟩ := kX.c4; have y1 := kP.lt; have y2 := kX.lt;go_simp; (try with_reducible rfl)
  (try simp only [cq])
  refine tkY 1 (some 10) ?_ ?_ ?_
  rotate_left
  · intro w _; go_simp; (try with_reducible rfl)
  (try simp only [cq])
  refine tkY 2 (some 11) ?_ ?_ ?_
  rotate_left
  · intro w hS0; (try dsimp only at hS0); obtain ⟨kP, kX, _⟩ := hS0; obtain ⟨c0, c1, c2, c3, c4, c5, c6, c7, c8, c9, c10, c11⟩ := kP.c12; obtain ⟨x0, x1, x2, x3⟩ := kX.c4; have y1 := kP.lt; have y2 := kX.lt;go_simp; (try with_reducible rfl)
  (try simp only [cq])
  refine tkY 3 (some 12) ?_ ?_ ?_
  rotate_left
  · intro w hS0; (try dsimp only at hS0); obtain ⟨kP, kX, _⟩ := hS0; obtain ⟨c0, c1, c2, c3, c4, c5, c6, c7, c8, c9, c10, c11⟩ := kP.c12; obtain ⟨x0, x1, x2, x3⟩ := kX.c4; have y1 := kP.lt; have y2 := kX.lt;go_simp; (try with_reducible rfl)
  (try simp only [cq])
  refine tkY 6 (some 15) ?_ ?_ ?_
  rotate_left
  · intro w hS0; (try dsimp only at hS0); obtain ⟨kP, kX, _⟩ := hS0; obtain ⟨c0, c1, c2, c3, c4, c5, c6, c7, c8, c9, c10, c11⟩ := kP.c12; obtain ⟨x0, x1, x2, x3⟩ := kX.c4; have y1 := kP.lt; have y2 := kX.lt;go_simp; (try with_reducible rfl)
  (try simp only [cq])
  refine tkY 7 (some 16) ?_ ?_ ?_
  rotate_left
  · intro w _; go_simp; (try with_reducible rfl)
  (try simp only [cq])
  refine tkY 8 (some 17) ?_ ?_ ?_
  rotate_left
  · intro w hS0; (try dsimp only at hS0); obtain ⟨kP, kX, _⟩ := hS0; obtain ⟨c0, c1, c2, c3, c4, c5, c6, c7, c8, c9, c10, c11⟩ := kP.c12; obtain ⟨x0, x1, x2, x3⟩ := kX.c4; have y1 := kP.lt; have y2 := kX.lt;go_simp; (try with_reducible rfl)
  (try simp only [cq])
  refine tkY 9 (some 18) ?_ ?_ ?_
  rotate_left
  · intro w hS0; (try dsimp only at hS0); obtain ⟨kP, kX, _⟩ := hS0; obtain ⟨c0, c1, c2, c3, c4, c5, c6, c7, c8, c9, c10, c11⟩ := kP.c12; obtain ⟨x0, x1, x2, x3⟩ := kX.c4; have y1 := kP.lt; have y2 := kX.lt;go_simp; (try with_reducible rfl)
  (try simp only [cq])
  refine wpAnyH_ready (rs := [4]) (by kernel_rfl) (by simp) ?_
  refine arc1 (some 13) fun K hK => ?_
  go_simp
  (refine (HB.out _ hH.2.2).mono ?_; rintro e w' ⟨rfl, hb⟩)
  refine hK.out _ _ ?_ ?_
  · (exact ⟨hH.1.call hb, hH.2.1.call hb, bwS hH.2.2 (Nat.le_refl _) hb⟩)
  (try clear hH); (try clear hb)
  intro hH
  clear hK K
  (try simp only [cq])
  refine tkY 5 (some 14) ?_ ?_ ?_
  rotate_left
  · intro w _; go_simp; (try with_reducible rfl)
  (try simp only [cq])
  refine wpAnyH_ready (rs := [10]) (by kernel_rfl) (by simp) ?_
  refine arc1 (some 19) fun K hK => ?_
  go_simp
  (refine (HI.out _ hH.2.2).mono ?_; rintro e w' ⟨rfl, hb⟩)
  refine hK.out _ _ ?_ ?_
  · (exact ⟨hH.1.call hb, hH.2.1.call hb, bwS hH.2.2 (Nat.le_refl _) hb⟩)
  (try clear hH); (try clear hb)
  intro hH
  clear hK K
  (try simp only [cq])
  refine tkY 11 (some 20) ?_ ?_ ?_
  rotate_left
  · intro w _; go_simp; (try with_reducible rfl)
  (try simp only [cq])
  refine tkY 12 (some 8) ?_ ?_ ?_
  rotate_left
  · intro w _; go_simp; (try with_reducible rfl)
  (try simp only [cq])
  refine wpAnyH_done (by kernel_rfl) ?_ _
  (try dsimp only [Act.put])
  (try simp only [cq])
  have hBB := hH.2.2
  clear hH
  go_wp2
  go_ret
  exact ⟨rfl, hBB⟩

set_option maxHeartbeats 2000000 in
theorem thick_any (p : Pl) (hp : p.Ok) (b : Bool) (vS vC vI vK : Value) (ni : Nat) (I0 I1 : Nat → Int) (nc : Nat) (C0 C1 : Nat → Int) (m : Int) (w : World) (hI : PairsAt w vI ni I0 I1) (hK : PairsAt w vK nc C0 C1) (h0 : ∀ j, j < nc → -1000000000 ≤ C0 j ∧ C0 j ≤ 1000000000 ∧ -1000000000 ≤ C1 j ∧ C1 j ≤ 1000000000) (hi : ∀ k, k < ni → 0 ≤ I0 k ∧ I0 k ≤ I1 k ∧ I1 k ≤ 5000) (hm : 0 ≤ m ∧ m < 100 * (ni : Int) ∧ m ≤ 1000000000) :
    Calls Try.prog 127 #[.agg #[.bool b, .int .i64 p.s0, .int .i64 p.s1, vS, vC, .int .i64 p.ne, .int .i64 p.ed, .int .i64 p.gr, .int .i64 p.lo, .int .i64 p.hi, .int .i64 p.sh, .int .i64 p.wi], vI, vK, .int .i64 m] w fun e w' => e = .returned (.int .i64 (thickV p b I0 I1 nc C0 C1 m)) ∧ Below w.heap.size w w' := by
  obtain ⟨j, hj⟩ : ∃ j : Nat, m / 100 = (j : Int) := ⟨(m / 100).toNat, by omega⟩
  have hjn : j < ni := by omega
  have HN : Hid (∀ W, Below w.heap.size w W → Calls Try.prog 144 #[.agg #[.bool b, .int .i64 p.s0, .int .i64 p.s1, vS, vC, .int .i64 p.ne, .int .i64 p.ed, .int .i64 p.gr, .int .i64 p.lo, .int .i64 p.hi, .int .i64 p.sh, .int .i64 p.wi], vK, .int .i64 m] W fun e w' => e = .returned (.bool (nearV p b nc C0 C1 m)) ∧ Below W.heap.size W w') := fun W hW => near_any p b vS vC vK nc C0 C1 m W (hK.later hW) h0 (by omega)
  have HV : Hid (thickV p b I0 I1 nc C0 C1 m = thinV p (nearV p b nc C0 C1 m) (endV b (I0 j) (I1 j))) := by unfold thickV Hid; rw [hj]; simp
  have hij := hi j hjn
  have hE : 0 ≤ endV b (I0 j) (I1 j) ∧ endV b (I0 j) (I1 j) ≤ 5000 := by cases b <;> simp [endV] <;> omega
  obtain ⟨a, cap, rfl, hcap, hl, h3⟩ := hI
  obtain ⟨bi, o, rfl, hc⟩ := h3 (by omega)
  obtain ⟨a0, a1⟩ := hc j hjn
  clear hc h3 hi h0 hK
  have hlt := World.block_lt_of_cell? _ _ a0
  have HE : Hid (endV b (I0 j) (I1 j) = endV b (I0 j) (I1 j)) := rfl
  have HM := Lib.hid (more_any b (I0 j) (I1 j))
  generalize nearV p b nc C0 C1 m = q at HN HV
  generalize thickV p b I0 I1 nc C0 C1 m = r at HV ⊢
  generalize endV b (I0 j) (I1 j) = h at HV hE HM
  have hed0 := hp.ed0
  have hed1 := hp.ed1
  have hmul : 0 ≤ h * p.ed ∧ h * p.ed ≤ 5000000000 := ⟨Int.mul_nonneg hE.1 hed0, by have := Int.mul_le_mul hE.2 hed1 hed0 (by omega : (0:Int) ≤ 5000); omega⟩
  have e1 : IntKind.i64.wrap (h * p.ed) = h * p.ed := IntWalk.i64_in _ (by omega)
  have e2 : IntKind.i64.wrap ((h * p.ed).tdiv 1000000) = h * p.ed / 1000000 := by rw [Int.tdiv_eq_ediv_of_nonneg hmul.1]; exact IntWalk.i64_in _ (by omega)
  have et : IntKind.i64.wrap (m.tdiv 100) = (j : Int) := by rw [Int.tdiv_eq_ediv_of_nonneg hm.1, hj]; exact IntWalk.i64_in _ (by omega)
  have hjc : (j : Int) < (ni : Int) := by omega
  clear hp hij HE hj hmul hE hed0 hed1
  have jP := Blk.new w #[.bool b, .int .i64 p.s0, .int .i64 p.s1, vS, vC, .int .i64 p.ne, .int .i64 p.ed, .int .i64 p.gr, .int .i64 p.lo, .int .i64 p.hi, .int .i64 p.sh, .int .i64 p.wi] 127
  have jB : Below w.heap.size w (w.alloc (.cells #[.bool b, .int .i64 p.s0, .int .i64 p.s1, vS, vC, .int .i64 p.ne, .int .i64 p.ed, .int .i64 p.gr, .int .i64 p.lo, .int .i64 p.hi, .int .i64 p.sh, .int .i64 p.wi] 127)) := by (repeat (first | exact Below.refl _ _ | assumption | refine Below.drew ?_ | refine Below.drewN ?_ _ | refine blT ?_ | refine blU ?_))
  go_enter Try.func127, Try.ntmps127
  go_wp2_with fail
  refine wp_region_held_drew (S := (fun w' => Blk w' w.heap.size #[.bool b, .int .i64 p.s0, .int .i64 p.s1, vS, vC, .int .i64 p.ne, .int .i64 p.ed, .int .i64 p.gr, .int .i64 p.lo, .int .i64 p.hi, .int .i64 p.sh, .int .i64 p.wi] 127 ∧ w'.cell? ⟨bi, o + j * 2, none⟩ = some (.int .i64 (I0 j)) ∧ w'.cell? ⟨bi, o + j * 2 + 1, none⟩ = some (.int .i64 (I1 j)) ∧ Below w.heap.size w w')) (by kernel_rfl) ?_ (fun hH => ?_)
  · (try dsimp only); (exact ⟨jP.drew, cell_later jB.drew a0, cell_later jB.drew a1, jB.drew⟩)
  refine tkY 0 (some 10) ?_ ?_ ?_
  rotate_left
  · intro w hS0; (try dsimp only at hS0); obtain ⟨kP, k0, k1, _⟩ := hS0; obtain ⟨c0, c1, c2, c3, c4, c5, c6, c7, c8, c9, c10, c11⟩ := kP.c12; have y1 := kP.lt;go_simp; (try with_reducible rfl)
  (try simp only [cq])
  refine tkY 1 (some 11) ?_ ?_ ?_
  rotate_left
  · intro w hS0; (try dsimp only at hS0); obtain ⟨kP, k0, k1, _⟩ := hS0; obtain ⟨c0, c1, c2, c3, c4, c5, c6, c7, c8, c9, c10, c11⟩ := kP.c12; have y1 := kP.lt;go_simp; (try with_reducible rfl)
  (try simp only [cq])
  refine tkY 2 (some 12) ?_ ?_ ?_
  rotate_left
  · intro w _; go_simp; (try with_reducible rfl)
  (try simp only [cq])
  refine tkY 3 (some 13) ?_ ?_ ?_
  rotate_left
  · intro w _; go_simp; (try with_reducible rfl)
  (try simp only [cq])
  refine tkY 4 (some 14) ?_ ?_ ?_
  rotate_left
  · intro w _; go_simp; (try with_reducible rfl)
  (try simp only [cq])
  refine tkY 5 (some 15) ?_ ?_ ?_
  rotate_left
  · intro w hS0; (try dsimp only at hS0); obtain ⟨kP, k0, k1, _⟩ := hS0; obtain ⟨c0, c1, c2, c3, c4, c5, c6, c7, c8, c9, c10, c11⟩ := kP.c12; have y1 := kP.lt;go_simp; (try with_reducible rfl)
  (try simp only [cq])
  refine tkY 6 (some 16) ?_ ?_ ?_
  rotate_left
  · intro w hS0; (try dsimp only at hS0); obtain ⟨kP, k0, k1, _⟩ := hS0; obtain ⟨c0, c1, c2, c3, c4, c5, c6, c7, c8, c9, c10, c11⟩ := kP.c12; have y1 := kP.lt;go_simp; (try with_reducible rfl)
  (try simp only [cq])
  refine wpAnyH_ready (rs := [7]) (by kernel_rfl) (by simp) ?_
  refine arc1 (some 17) fun K hK => ?_
  go_simp
  (refine (HM.out _).mono ?_; rintro e w' ⟨rfl, hb⟩)
  refine hK.out _ _ ?_ ?_
  · (exact ⟨hH.1.call hb, cell_later hb hH.2.1, cell_later hb hH.2.2.1, bwS hH.2.2.2 (Nat.le_refl _) hb⟩)
  (try clear hH); (try clear hb)
  intro hH
  clear hK K
  (try simp only [cq])
  refine tkY 8 (some 9) ?_ ?_ ?_
  rotate_left
  · intro w _; go_simp; (try with_reducible rfl)
  (try simp only [cq])
  refine wpAnyH_done (by kernel_rfl) ?_ _
  (try dsimp only [Act.put])
  (try simp only [cq])
  obtain ⟨jP, _, _, hB⟩ := hH
  obtain ⟨c0, c1, c2, c3, c4, c5, c6, c7, c8, c9, c10, c11⟩ := jP.c12
  have zP := jP.lt
  go_wp2_with fail
  refine (HN.out _ hB).mono ?_
  rintro e w2 ⟨rfl, hb⟩
  clear c0 c1 c2 c3 c4 c5 c6 c7 c8 c9 c10 c11 zP
  replace jP := jP.call hb
  replace hB := bwS hB (Nat.le_refl _) hb
  clear hb HN
  have hr := HV.out
  clear HV
  cases q with
  | true =>
    simp only [thinV, if_true] at hr
    subst hr
    obtain ⟨c0, c1, c2, c3, c4, c5, c6, c7, c8, c9, c10, c11⟩ := jP.c12
    have zP := jP.lt
    go_wp2
    go_ret
    exact ⟨rfl, hB⟩
  | false =>
    simp only [thinV, Bool.false_eq_true, if_false] at hr
    subst hr
    go_wp2
    go_ret
    exact ⟨rfl, hB⟩
end Go.Proofs.Ytkkljbbgaogifaa

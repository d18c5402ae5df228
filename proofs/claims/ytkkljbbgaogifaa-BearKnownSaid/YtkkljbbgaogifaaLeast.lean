/-
  bear.Stands and bear.Need where all is valid.
-/
import Derived.Test.YtkkljbbgaogifaaTail
import Derived.Test.YtkkljbbgaogifaaAwake
set_option linter.unusedVariables false
set_option linter.unusedSimpArgs false
namespace Go.Proofs.Ytkkljbbgaogifaa
open Go.RowKit

set_option maxHeartbeats 2000000 in
theorem standc_any (p : Pl) (hp : p.Ok) (aS aC : Option Addr) (cS cC : Nat) (v wt : Int) (d : Nat) (hv : 0 ≤ v ∧ v ≤ 5000) (bp bv bw : Nat) (w : World) (hS : TabAt w (.slice aS p.S.n cS) p.S) (hC : TabAt w (.slice aC p.C.n cC) p.C) (kp : Blk w bp #[.int .i64 p.s0, .int .i64 p.s1, (.slice aS p.S.n cS), (.slice aC p.C.n cC), .int .i64 p.ne, .int .i64 p.ed, .int .i64 p.gr, .int .i64 p.lo, .int .i64 p.hi, .int .i64 p.sh, .int .i64 p.wi] 26) (kv : Blk w bv #[.int .i64 v] 3) (kw : Blk w bw #[.int .i64 wt] 3) :
    Calls Try.prog 81 #[.int .i64 d, .pointer (some ⟨bp, 0, none⟩), .pointer (some ⟨bv, 0, none⟩), .pointer (some ⟨bw, 0, none⟩)] w fun e w' => e = .returned (.bool (decide (limV p false v (d : Int) / 1000000000000 < wt))) ∧ Below w.heap.size w w' := by
  have HG : Hid (∀ W, Below w.heap.size w W → Calls Try.prog 77 #[.agg #[.int .i64 p.s0, .int .i64 p.s1, (.slice aS p.S.n cS), (.slice aC p.C.n cC), .int .i64 p.ne, .int .i64 p.ed, .int .i64 p.gr, .int .i64 p.lo, .int .i64 p.hi, .int .i64 p.sh, .int .i64 p.wi], .int .i64 v, .int .i64 (d : Int)] W fun e w' => e = .returned (.int .i64 (limV p false v (d : Int) / 1000000000000)) ∧ Below W.heap.size W w') := fun W hW => great_any p hp _ _ v (d : Int) (by omega) (by omega) W (hS.later hW) (hC.later hW)
  generalize limV p false v (d : Int) / 1000000000000 = r at HG ⊢
  have HK := Lib.hid (And.intro kp (And.intro kv kw))
  clear hS hC hp kp kv kw
  go_enter Try.func81, Try.ntmps81
  go_wp2_with fail
  refine wp_region_held_drew (S := (fun w' => Below w.heap.size w w')) (by kernel_rfl) ?_ (fun hH => ?_)
  · (try dsimp only); (exact (Below.refl _ _).drew)
  refine tkY 0 (some 6) ?_ ?_ ?_
  rotate_left
  · intro w hS0; (try dsimp only at hS0); have kp := HK.out.1.call hS0; have kv := HK.out.2.1.call hS0; have kw := HK.out.2.2.call hS0; obtain ⟨c0, c1, c2, c3, c4, c5, c6, c7, c8, c9, c10⟩ := kp.c11; have v0 := kv.cell1; have w0 := kw.cell1; have y1 := kp.lt; have y2 := kv.lt; have y3 := kw.lt;go_simp; (try with_reducible rfl)
  (try simp only [cq])
  refine tkY 1 (some 7) ?_ ?_ ?_
  rotate_left
  · intro w hS0; (try dsimp only at hS0); have kp := HK.out.1.call hS0; have kv := HK.out.2.1.call hS0; have kw := HK.out.2.2.call hS0; obtain ⟨c0, c1, c2, c3, c4, c5, c6, c7, c8, c9, c10⟩ := kp.c11; have v0 := kv.cell1; have w0 := kw.cell1; have y1 := kp.lt; have y2 := kv.lt; have y3 := kw.lt;go_simp; (try with_reducible rfl)
  (try simp only [cq])
  refine tkY 2 (some 8) ?_ ?_ ?_
  rotate_left
  · intro w _; go_simp; (try with_reducible rfl)
  (try simp only [cq])
  refine tkY 4 (some 10) ?_ ?_ ?_
  rotate_left
  · intro w hS0; (try dsimp only at hS0); have kp := HK.out.1.call hS0; have kv := HK.out.2.1.call hS0; have kw := HK.out.2.2.call hS0; obtain ⟨c0, c1, c2, c3, c4, c5, c6, c7, c8, c9, c10⟩ := kp.c11; have v0 := kv.cell1; have w0 := kw.cell1; have y1 := kp.lt; have y2 := kv.lt; have y3 := kw.lt;go_simp; (try with_reducible rfl)
  (try simp only [cq])
  refine wpAnyH_ready (rs := [3]) (by kernel_rfl) (by simp) ?_
  refine arc1 (some 9) fun K hK => ?_
  go_simp
  (refine (HG.out _ hH).mono ?_; rintro e w' ⟨rfl, hb⟩)
  refine hK.out _ _ ?_ ?_
  · (exact bwS hH (Nat.le_refl _) hb)
  (try clear hH); (try clear hb)
  intro hH
  clear hK K
  (try simp only [cq])
  refine tkY 5 (some 11) ?_ ?_ ?_
  rotate_left
  · intro w _; go_simp; (try with_reducible rfl)
  (try simp only [cq])
  refine tkY 6 (some 5) ?_ ?_ ?_
  rotate_left
  · intro w _; go_simp; (try with_reducible rfl)
  (try simp only [cq])
  refine wpAnyH_done (by kernel_rfl) ?_ _
  (try dsimp only [Act.put])
  (try simp only [cq])
  go_wp2
  go_ret
  exact ⟨rfl, hH⟩

set_option maxHeartbeats 2000000 in
theorem needc_any (p : Pl) (hp : p.Ok) (aS aC : Option Addr) (cS cC : Nat) (v wt : Int) (d : Nat) (hv : d ≤ 5000 ∧ 0 ≤ v) (bp bv bw : Nat) (w : World) (hS : TabAt w (.slice aS p.S.n cS) p.S) (hC : TabAt w (.slice aC p.C.n cC) p.C) (kp : Blk w bp #[.int .i64 p.s0, .int .i64 p.s1, (.slice aS p.S.n cS), (.slice aC p.C.n cC), .int .i64 p.ne, .int .i64 p.ed, .int .i64 p.gr, .int .i64 p.lo, .int .i64 p.hi, .int .i64 p.sh, .int .i64 p.wi] 26) (kv : Blk w bv #[.int .i64 v] 3) (kw : Blk w bw #[.int .i64 wt] 3) :
    Calls Try.prog 80 #[.int .i64 d, .pointer (some ⟨bp, 0, none⟩), .pointer (some ⟨bv, 0, none⟩), .pointer (some ⟨bw, 0, none⟩)] w fun e w' => e = .returned (.bool (decide (wt ≤ limV p false (d : Int) v / 1000000000000))) ∧ Below w.heap.size w w' := by
  have HG : Hid (∀ W, Below w.heap.size w W → Calls Try.prog 77 #[.agg #[.int .i64 p.s0, .int .i64 p.s1, (.slice aS p.S.n cS), (.slice aC p.C.n cC), .int .i64 p.ne, .int .i64 p.ed, .int .i64 p.gr, .int .i64 p.lo, .int .i64 p.hi, .int .i64 p.sh, .int .i64 p.wi], .int .i64 (d : Int), .int .i64 v] W fun e w' => e = .returned (.int .i64 (limV p false (d : Int) v / 1000000000000)) ∧ Below W.heap.size W w') := fun W hW => great_any p hp _ _ (d : Int) v (by omega) (by omega) W (hS.later hW) (hC.later hW)
  generalize limV p false (d : Int) v / 1000000000000 = r at HG ⊢
  have HK := Lib.hid (And.intro kp (And.intro kv kw))
  clear hS hC hp kp kv kw
  go_enter Try.func80, Try.ntmps80
  go_wp2_with fail
  refine wp_region_held_drew (S := (fun w' => Below w.heap.size w w')) (by kernel_rfl) ?_ (fun hH => ?_)
  · (try dsimp only); (exact (Below.refl _ _).drew)
  refine tkY 0 (some 6) ?_ ?_ ?_
  rotate_left
  · intro w hS0; (try dsimp only at hS0); have kp := HK.out.1.call hS0; have kv := HK.out.2.1.call hS0; have kw := HK.out.2.2.call hS0; obtain ⟨c0, c1, c2, c3, c4, c5, c6, c7, c8, c9, c10⟩ := kp.c11; have v0 := kv.cell1; have w0 := kw.cell1; have y1 := kp.lt; have y2 := kv.lt; have y3 := kw.lt;go_simp; (try with_reducible rfl)
  (try simp only [cq])
  refine tkY 1 (some 7) ?_ ?_ ?_
  rotate_left
  · intro w _; go_simp; (try with_reducible rfl)
  (try simp only [cq])
  refine tkY 2 (some 8) ?_ ?_ ?_
  rotate_left
  · intro w hS0; (try dsimp only at hS0); have kp := HK.out.1.call hS0; have kv := HK.out.2.1.call hS0; have kw := HK.out.2.2.call hS0; obtain ⟨c0, c1, c2, c3, c4, c5, c6, c7, c8, c9, c10⟩ := kp.c11; have v0 := kv.cell1; have w0 := kw.cell1; have y1 := kp.lt; have y2 := kv.lt; have y3 := kw.lt;go_simp; (try with_reducible rfl)
  (try simp only [cq])
  refine tkY 4 (some 10) ?_ ?_ ?_
  rotate_left
  · intro w hS0; (try dsimp only at hS0); have kp := HK.out.1.call hS0; have kv := HK.out.2.1.call hS0; have kw := HK.out.2.2.call hS0; obtain ⟨c0, c1, c2, c3, c4, c5, c6, c7, c8, c9, c10⟩ := kp.c11; have v0 := kv.cell1; have w0 := kw.cell1; have y1 := kp.lt; have y2 := kv.lt; have y3 := kw.lt;go_simp; (try with_reducible rfl)
  (try simp only [cq])
  refine wpAnyH_ready (rs := [3]) (by kernel_rfl) (by simp) ?_
  refine arc1 (some 9) fun K hK => ?_
  go_simp
  (refine (HG.out _ hH).mono ?_; rintro e w' ⟨rfl, hb⟩)
  refine hK.out _ _ ?_ ?_
  · (exact bwS hH (Nat.le_refl _) hb)
  (try clear hH); (try clear hb)
  intro hH
  clear hK K
  (try simp only [cq])
  refine tkY 5 (some 11) ?_ ?_ ?_
  rotate_left
  · intro w _; go_simp; (try with_reducible rfl)
  (try simp only [cq])
  refine tkY 6 (some 5) ?_ ?_ ?_
  rotate_left
  · intro w _; go_simp; (try with_reducible rfl)
  (try simp only [cq])
  refine wpAnyH_done (by kernel_rfl) ?_ _
  (try dsimp only [Act.put])
  (try simp only [cq])
  go_wp2
  go_ret
  exact ⟨rfl, hH⟩

set_option maxRecDepth 100000 in
set_option maxHeartbeats 4000000 in
theorem search3_in (n : Nat) (hn : n ≤ 1000000) (p q r : Value) (f : Nat → Bool) (w : World) (hf : ∀ i, i < n → ∀ W, Below w.heap.size w W → Calls Try.prog 81 #[.int .i64 i, p, q, r] W fun e w' => e = .returned (.bool (f i)) ∧ Below W.heap.size W w') :
    Calls Try.prog 79 #[.int .i64 n, .func (.func 81) #[] #[p, q, r]] w fun e w' => ∃ k : Nat, e = .returned (.int .i64 k) ∧ k ≤ n ∧ (k < n → f k = true) ∧ (∀ j, k = j + 1 → f j = false) ∧ Below w.heap.size w w' := by
  have HF := Lib.hid hf
  clear hf
  go_enter Try.func79, Try.ntmps79
  go_wp2_with fail
  go_loopw [5, 6, 7] (fun vi vj vh wr => ∃ i j : Nat, i ≤ j ∧ j ≤ n ∧ vi = .int .i64 i ∧ vj = .int .i64 j ∧ (j < n → f j = true) ∧ (∀ q, i = q + 1 → f q = false) ∧ Below w.heap.size w wr) (fun vi vj _ _ => (intOf vj).toNat - (intOf vi).toNat)
  case atStart => exact ⟨0, n, Nat.zero_le _, Nat.le_refl _, rfl, rfl, fun h => absurd h (Nat.lt_irrefl _), fun q h => by omega, Below.refl _ _⟩
  case round =>
    obtain ⟨i, j, hij, hjn, rfl, rfl, h1, h2, hIw⟩ := hrel
    have H1 := Lib.hid h1
    have H2 := Lib.hid h2
    clear h1 h2
    by_cases hlt : i < j
    · have e1 : IntKind.i64.wrap ((i : Int) + (j : Int)) = (i : Int) + (j : Int) := IntWalk.i64_in _ (by omega)
      go_wp2_with fail
      have hh : ((i : Int) + (j : Int)) / 2 = (((i + j) / 2 : Nat) : Int) := by omega
      simp only [hh]
      clear hh e1
      obtain ⟨h, hh⟩ : ∃ h, (i + j) / 2 = h := ⟨_, rfl⟩
      have b1 : i ≤ h := by omega
      have b2 : h < j := by omega
      rw [hh]
      clear hh
      refine (HF.out h (by omega) _ hIw).mono ?_
      rintro e w2 ⟨rfl, hb⟩
      have hI2 := bwS hIw (Nat.le_refl _) hb
      clear hb
      have e3 : IntKind.i64.wrap ((h : Int) + 1) = (h : Int) + 1 := IntWalk.i64_in _ (by omega)
      cases hv : f h with
      | true =>
        have H3 := Lib.hid hv
        clear hv
        go_wp2
        go_roundw
        case rel => exact ⟨i, h, b1, by omega, rfl, rfl, fun _ => H3.out, H2.out, hI2⟩
        case measure => simp [intOf]; omega
      | false =>
        have H3 := Lib.hid hv
        clear hv
        go_wp2
        go_roundw
        case rel => exact ⟨h + 1, j, by omega, hjn, by go_num, rfl, H1.out, fun q hq => by rw [← show h = q by omega]; exact H3.out, hI2⟩
        case measure => simp [intOf]; omega
    · have hij2 : j = i := by omega
      subst hij2
      go_wp2
      go_ret
      exact ⟨_, rfl, hjn, H1.out, H2.out, hIw⟩

set_option maxRecDepth 100000 in
set_option maxHeartbeats 4000000 in
theorem search4_in (n : Nat) (hn : n ≤ 1000000) (p q r : Value) (f : Nat → Bool) (w : World) (hf : ∀ i, i < n → ∀ W, Below w.heap.size w W → Calls Try.prog 80 #[.int .i64 i, p, q, r] W fun e w' => e = .returned (.bool (f i)) ∧ Below W.heap.size W w') :
    Calls Try.prog 79 #[.int .i64 n, .func (.func 80) #[] #[p, q, r]] w fun e w' => ∃ k : Nat, e = .returned (.int .i64 k) ∧ k ≤ n ∧ (k < n → f k = true) ∧ (∀ j, k = j + 1 → f j = false) ∧ Below w.heap.size w w' := by
  have HF := Lib.hid hf
  clear hf
  go_enter Try.func79, Try.ntmps79
  go_wp2_with fail
  go_loopw [5, 6, 7] (fun vi vj vh wr => ∃ i j : Nat, i ≤ j ∧ j ≤ n ∧ vi = .int .i64 i ∧ vj = .int .i64 j ∧ (j < n → f j = true) ∧ (∀ q, i = q + 1 → f q = false) ∧ Below w.heap.size w wr) (fun vi vj _ _ => (intOf vj).toNat - (intOf vi).toNat)
  case atStart => exact ⟨0, n, Nat.zero_le _, Nat.le_refl _, rfl, rfl, fun h => absurd h (Nat.lt_irrefl _), fun q h => by omega, Below.refl _ _⟩
  case round =>
    obtain ⟨i, j, hij, hjn, rfl, rfl, h1, h2, hIw⟩ := hrel
    have H1 := Lib.hid h1
    have H2 := Lib.hid h2
    clear h1 h2
    by_cases hlt : i < j
    · have e1 : IntKind.i64.wrap ((i : Int) + (j : Int)) = (i : Int) + (j : Int) := IntWalk.i64_in _ (by omega)
      go_wp2_with fail
      have hh : ((i : Int) + (j : Int)) / 2 = (((i + j) / 2 : Nat) : Int) := by omega
      simp only [hh]
      clear hh e1
      obtain ⟨h, hh⟩ : ∃ h, (i + j) / 2 = h := ⟨_, rfl⟩
      have b1 : i ≤ h := by omega
      have b2 : h < j := by omega
      rw [hh]
      clear hh
      refine (HF.out h (by omega) _ hIw).mono ?_
      rintro e w2 ⟨rfl, hb⟩
      have hI2 := bwS hIw (Nat.le_refl _) hb
      clear hb
      have e3 : IntKind.i64.wrap ((h : Int) + 1) = (h : Int) + 1 := IntWalk.i64_in _ (by omega)
      cases hv : f h with
      | true =>
        have H3 := Lib.hid hv
        clear hv
        go_wp2
        go_roundw
        case rel => exact ⟨i, h, b1, by omega, rfl, rfl, fun _ => H3.out, H2.out, hI2⟩
        case measure => simp [intOf]; omega
      | false =>
        have H3 := Lib.hid hv
        clear hv
        go_wp2
        go_roundw
        case rel => exact ⟨h + 1, j, by omega, hjn, by go_num, rfl, H1.out, fun q hq => by rw [← show h = q by omega]; exact H3.out, hI2⟩
        case measure => simp [intOf]; omega
    · have hij2 : j = i := by omega
      subst hij2
      go_wp2
      go_ret
      exact ⟨_, rfl, hjn, H1.out, H2.out, hIw⟩

set_option maxRecDepth 100000 in
set_option maxHeartbeats 4000000 in
theorem stands_valid (p : Pl) (hp : p.Ok) (vS vC : Value) (th wt : Int) (ht : 0 ≤ th ∧ th ≤ 5000) (hw : 0 ≤ wt ∧ wt ≤ 200000) (w : World) (hS : TabAt w vS p.S) (hC : TabAt w vC p.C) :
    Calls Try.prog 28 #[.agg #[.int .i64 p.s0, .int .i64 p.s1, vS, vC, .int .i64 p.ne, .int .i64 p.ed, .int .i64 p.gr, .int .i64 p.lo, .int .i64 p.hi, .int .i64 p.sh, .int .i64 p.wi], .int .i64 th, .int .i64 wt] w fun e w' => ∃ k : Nat, e = .returned (.tuple #[.int .i64 ((k : Int) - 1), .int .i64 0]) ∧ k ≤ 10001 ∧ (k < 10001 → limV p false th (k : Int) / 1000000000000 < wt) ∧ (∀ j : Nat, k = j + 1 → ¬ limV p false th (j : Int) / 1000000000000 < wt) ∧ Below w.heap.size w w' := by
  obtain ⟨aS, cS, rfl, _, _, _⟩ := id hS
  obtain ⟨aC, cC, rfl, _, _, _⟩ := id hC
  have HC : Hid (∀ W, Below w.heap.size w W → Calls Try.prog 30 #[.agg #[.int .i64 p.s0, .int .i64 p.s1, (.slice aS p.S.n cS), (.slice aC p.C.n cC), .int .i64 p.ne, .int .i64 p.ed, .int .i64 p.gr, .int .i64 p.lo, .int .i64 p.hi, .int .i64 p.sh, .int .i64 p.wi]] W fun e w' => e = .returned (.int .i64 0) ∧ Below W.heap.size W w') := fun W hW => by
    have q := check_any p _ _ W (hS.later hW) (hC.later hW)
    rw [ePl_ok hp] at q
    exact q
  have jP := ((Blk.new w #[.int .i64 p.s0, .int .i64 p.s1, (.slice aS p.S.n cS), (.slice aC p.C.n cC), .int .i64 p.ne, .int .i64 p.ed, .int .i64 p.gr, .int .i64 p.lo, .int .i64 p.hi, .int .i64 p.sh, .int .i64 p.wi] 26).alloc (.cells #[.int .i64 th] 3)).alloc (.cells #[.int .i64 wt] 3)
  have jA := (Blk.new1 w (.cells #[.int .i64 p.s0, .int .i64 p.s1, (.slice aS p.S.n cS), (.slice aC p.C.n cC), .int .i64 p.ne, .int .i64 p.ed, .int .i64 p.gr, .int .i64 p.lo, .int .i64 p.hi, .int .i64 p.sh, .int .i64 p.wi] 26) #[.int .i64 th] 3).alloc (.cells #[.int .i64 wt] 3)
  have jD := Blk.new2 w (.cells #[.int .i64 p.s0, .int .i64 p.s1, (.slice aS p.S.n cS), (.slice aC p.C.n cC), .int .i64 p.ne, .int .i64 p.ed, .int .i64 p.gr, .int .i64 p.lo, .int .i64 p.hi, .int .i64 p.sh, .int .i64 p.wi] 26) (.cells #[.int .i64 th] 3) #[.int .i64 wt] 3
  have jB : Below w.heap.size w (((w.alloc (.cells #[.int .i64 p.s0, .int .i64 p.s1, (.slice aS p.S.n cS), (.slice aC p.C.n cC), .int .i64 p.ne, .int .i64 p.ed, .int .i64 p.gr, .int .i64 p.lo, .int .i64 p.hi, .int .i64 p.sh, .int .i64 p.wi] 26)).alloc (.cells #[.int .i64 th] 3)).alloc (.cells #[.int .i64 wt] 3)) := by (repeat (first | exact Below.refl _ _ | assumption | refine Below.drew ?_ | refine Below.drewN ?_ _ | refine blT ?_ | refine blU ?_))
  have ez1 : eN th 0 5000 = 0 := eN_ok ht.1 ht.2
  have ez2 : eN wt 0 200000 = 0 := eN_ok hw.1 hw.2
  have HSr : Hid (∀ W, Below w.heap.size w W → Blk W w.heap.size #[.int .i64 p.s0, .int .i64 p.s1, (.slice aS p.S.n cS), (.slice aC p.C.n cC), .int .i64 p.ne, .int .i64 p.ed, .int .i64 p.gr, .int .i64 p.lo, .int .i64 p.hi, .int .i64 p.sh, .int .i64 p.wi] 26 → Blk W (w.heap.size + 1) #[.int .i64 th] 3 → Blk W (w.heap.size + 1 + 1) #[.int .i64 wt] 3 → Calls Try.prog 79 #[.int .i64 10001, .func (.func 81) #[] #[.pointer (some ⟨w.heap.size, 0, none⟩), .pointer (some ⟨w.heap.size + 1, 0, none⟩), .pointer (some ⟨w.heap.size + 1 + 1, 0, none⟩)]] W fun e w' => ∃ k : Nat, e = .returned (.int .i64 k) ∧ k ≤ 10001 ∧ (k < 10001 → decide (limV p false th (k : Int) / 1000000000000 < wt) = true) ∧ (∀ j, k = j + 1 → decide (limV p false th (j : Int) / 1000000000000 < wt) = false) ∧ Below W.heap.size W w') := fun W hW k1 k2 k3 =>
    search3_in 10001 (by decide) _ _ _ (fun d => decide (limV p false th (d : Int) / 1000000000000 < wt)) W (fun i hi U hU => standc_any p hp aS aC cS cC _ _ i (by omega) _ _ _ U ((hS.later hW).later hU) ((hC.later hW).later hU) (k1.call hU) (k2.call hU) (k3.call hU))
  clear hS hC hp
  go_enter Try.func28, Try.ntmps28
  go_wp2_with fail
  refine wp_region_held_drew (S := (fun w' => Blk w' w.heap.size #[.int .i64 p.s0, .int .i64 p.s1, (.slice aS p.S.n cS), (.slice aC p.C.n cC), .int .i64 p.ne, .int .i64 p.ed, .int .i64 p.gr, .int .i64 p.lo, .int .i64 p.hi, .int .i64 p.sh, .int .i64 p.wi] 26 ∧ Blk w' (w.heap.size + 1) #[.int .i64 th] 3 ∧ Blk w' (w.heap.size + 1 + 1) #[.int .i64 wt] 3 ∧ Below w.heap.size w w')) (by kernel_rfl) ?_ (fun hH => ?_)
  · (try dsimp only); (exact ⟨jP.drew, jA.drew, jD.drew, jB.drew⟩)
  refine tkY 0 (some 10) ?_ ?_ ?_
  rotate_left
  · intro w hS0; (try dsimp only at hS0); obtain ⟨kp, kv, kw, _⟩ := hS0; obtain ⟨c0, c1, c2, c3, c4, c5, c6, c7, c8, c9, c10⟩ := kp.c11; have v0 := kv.cell1; have w0 := kw.cell1; have y1 := kp.lt; have y2 := kv.lt; have y3 := kw.lt;go_simp; (try with_reducible rfl)
  (try simp only [cq])
  refine tkY 2 (some 12) ?_ ?_ ?_
  rotate_left
  · intro w hS0; (try dsimp only at hS0); obtain ⟨kp, kv, kw, _⟩ := hS0; obtain ⟨c0, c1, c2, c3, c4, c5, c6, c7, c8, c9, c10⟩ := kp.c11; have v0 := kv.cell1; have w0 := kw.cell1; have y1 := kp.lt; have y2 := kv.lt; have y3 := kw.lt;go_simp; (try with_reducible rfl)
  (try simp only [cq])
  refine tkY 4 (some 14) ?_ ?_ ?_
  rotate_left
  · intro w hS0; (try dsimp only at hS0); obtain ⟨kp, kv, kw, _⟩ := hS0; obtain ⟨c0, c1, c2, c3, c4, c5, c6, c7, c8, c9, c10⟩ := kp.c11; have v0 := kv.cell1; have w0 := kw.cell1; have y1 := kp.lt; have y2 := kv.lt; have y3 := kw.lt;go_simp; (try with_reducible rfl)
  (try simp only [cq])
  refine wpAnyH_ready (rs := [1]) (by kernel_rfl) (by simp) ?_
  refine arc1 (some 11) fun K hK => ?_
  go_simp
  (refine (HC.out _ hH.2.2.2).mono ?_; rintro e w' ⟨rfl, hb⟩)
  refine hK.out _ _ ?_ ?_
  · (exact ⟨hH.1.call hb, hH.2.1.call hb, hH.2.2.1.call hb, bwS hH.2.2.2 (Nat.le_refl _) hb⟩)
  (try clear hH); (try clear hb)
  intro hH
  clear hK K
  (try simp only [cq])
  refine wpAnyH_ready (rs := [3]) (by kernel_rfl) (by simp) ?_
  refine arc1 (some 13) fun K hK => ?_
  go_simp
  (refine (thickc_any _ _).mono ?_; rw [ez1]; rintro e w' ⟨rfl, rfl⟩)
  refine hK.out _ _ ?_ ?_
  · exact hH
  (try clear hH); (try clear hb)
  intro hH
  clear hK K
  (try simp only [cq])
  refine wpAnyH_ready (rs := [5]) (by kernel_rfl) (by simp) ?_
  refine arc1 (some 15) fun K hK => ?_
  go_simp
  (refine (number_any _ _ _ _).mono ?_; rw [ez2]; rintro e w' ⟨rfl, rfl⟩)
  refine hK.out _ _ ?_ ?_
  · exact hH
  (try clear hH); (try clear hb)
  intro hH
  clear hK K
  (try simp only [cq])
  refine wpAnyH_ready (rs := [6]) (by kernel_rfl) (by simp) ?_
  refine arc1 (some 16) fun K hK => ?_
  go_simp
  refine hK.out _ _ ?_ ?_
  · exact ⟨hH.1.alloc _, hH.2.1.alloc _, hH.2.2.1.alloc _, bwA hH.2.2.2 (Nat.le_refl _) _⟩
  (try clear hH); (try clear hb)
  intro hH
  clear hK K
  (try simp only [cq])
  refine wpAnyH_ready (rs := [7]) (by kernel_rfl) (by simp) ?_
  refine arc1 (some 17) fun K hK => ?_
  go_simp
  (refine (first_three _ _ 0 0 0 _ (by simp) (by simp) (by simp)).mono ?_; rw [show orE 0 (orE 0 0) = 0 from rfl]; rintro e w' ⟨rfl, rfl⟩)
  refine hK.out _ _ ?_ ?_
  · exact hH
  (try clear hH); (try clear hb)
  intro hH
  clear hK K
  (try simp only [cq])
  refine tkY 8 (some 8) ?_ ?_ ?_
  rotate_left
  · intro w _; go_simp; (try with_reducible rfl)
  (try simp only [cq])
  refine wpAnyH_done (by kernel_rfl) ?_ _
  (try dsimp only [Act.put])
  (try simp only [cq])
  clear jP jA jD jB HC
  obtain ⟨jP, jA, jD, jB⟩ := hH
  go_wp2_with fail
  refine (HSr.out _ jB jP jA jD).mono ?_
  rintro e w5 ⟨k, rfl, k1, k2, k3, hb⟩
  have HK := Lib.hid (And.intro k1 (And.intro k2 k3))
  replace jB := bwS jB (Nat.le_refl _) hb
  clear hb k1 k2 k3 jP jA jD HSr
  have e1 : IntKind.i64.wrap ((k : Int) - 1) = (k : Int) - 1 := IntWalk.i64_in _ (by have := HK.out.1; omega)
  go_wp2
  obtain ⟨k1, k2, k3⟩ := HK.out
  exact bodyPost_ret (v := .tuple #[.int .i64 ((k : Int) - 1), .int .i64 0]) (by simp [results, Try.results28, go_sem]) rfl ⟨k, rfl, k1, fun h => by simpa using k2 h, fun j h => by simpa using k3 j h, jB⟩

set_option maxRecDepth 100000 in
set_option maxHeartbeats 4000000 in
theorem need_valid (p : Pl) (hp : p.Ok) (vS vC : Value) (wt mi : Int) (hw : 0 ≤ wt ∧ wt ≤ 200000) (hm : 0 ≤ mi ∧ mi ≤ 10000) (w : World) (hS : TabAt w vS p.S) (hC : TabAt w vC p.C) :
    Calls Try.prog 26 #[.agg #[.int .i64 p.s0, .int .i64 p.s1, vS, vC, .int .i64 p.ne, .int .i64 p.ed, .int .i64 p.gr, .int .i64 p.lo, .int .i64 p.hi, .int .i64 p.sh, .int .i64 p.wi], .int .i64 wt, .int .i64 mi] w fun e w' => ∃ k : Nat, (e = .returned (.tuple #[.int .i64 k, .int .i64 0]) ∧ k ≤ 5000 ∧ wt ≤ limV p false (k : Int) mi / 1000000000000 ∧ (∀ j : Nat, k = j + 1 → ¬ wt ≤ limV p false (j : Int) mi / 1000000000000) ∨ e = .returned (.tuple #[.int .i64 0, .int .i64 14]) ∧ ¬ wt ≤ limV p false (5000 : Int) mi / 1000000000000) ∧ Below w.heap.size w w' := by
  obtain ⟨aS, cS, rfl, _, _, _⟩ := id hS
  obtain ⟨aC, cC, rfl, _, _, _⟩ := id hC
  have HC : Hid (∀ W, Below w.heap.size w W → Calls Try.prog 30 #[.agg #[.int .i64 p.s0, .int .i64 p.s1, (.slice aS p.S.n cS), (.slice aC p.C.n cC), .int .i64 p.ne, .int .i64 p.ed, .int .i64 p.gr, .int .i64 p.lo, .int .i64 p.hi, .int .i64 p.sh, .int .i64 p.wi]] W fun e w' => e = .returned (.int .i64 0) ∧ Below W.heap.size W w') := fun W hW => by
    have q := check_any p _ _ W (hS.later hW) (hC.later hW)
    rw [ePl_ok hp] at q
    exact q
  have jP := ((Blk.new w #[.int .i64 p.s0, .int .i64 p.s1, (.slice aS p.S.n cS), (.slice aC p.C.n cC), .int .i64 p.ne, .int .i64 p.ed, .int .i64 p.gr, .int .i64 p.lo, .int .i64 p.hi, .int .i64 p.sh, .int .i64 p.wi] 26).alloc (.cells #[.int .i64 wt] 3)).alloc (.cells #[.int .i64 mi] 3)
  have jA := (Blk.new1 w (.cells #[.int .i64 p.s0, .int .i64 p.s1, (.slice aS p.S.n cS), (.slice aC p.C.n cC), .int .i64 p.ne, .int .i64 p.ed, .int .i64 p.gr, .int .i64 p.lo, .int .i64 p.hi, .int .i64 p.sh, .int .i64 p.wi] 26) #[.int .i64 wt] 3).alloc (.cells #[.int .i64 mi] 3)
  have jD := Blk.new2 w (.cells #[.int .i64 p.s0, .int .i64 p.s1, (.slice aS p.S.n cS), (.slice aC p.C.n cC), .int .i64 p.ne, .int .i64 p.ed, .int .i64 p.gr, .int .i64 p.lo, .int .i64 p.hi, .int .i64 p.sh, .int .i64 p.wi] 26) (.cells #[.int .i64 wt] 3) #[.int .i64 mi] 3
  have jB : Below w.heap.size w (((w.alloc (.cells #[.int .i64 p.s0, .int .i64 p.s1, (.slice aS p.S.n cS), (.slice aC p.C.n cC), .int .i64 p.ne, .int .i64 p.ed, .int .i64 p.gr, .int .i64 p.lo, .int .i64 p.hi, .int .i64 p.sh, .int .i64 p.wi] 26)).alloc (.cells #[.int .i64 wt] 3)).alloc (.cells #[.int .i64 mi] 3)) := by (repeat (first | exact Below.refl _ _ | assumption | refine Below.drew ?_ | refine Below.drewN ?_ _ | refine blT ?_ | refine blU ?_))
  have ez1 : eN wt 0 200000 = 0 := eN_ok hw.1 hw.2
  have ez2 : eN mi 0 10000 = 0 := eN_ok hm.1 hm.2
  have HSr : Hid (∀ W, Below w.heap.size w W → Blk W w.heap.size #[.int .i64 p.s0, .int .i64 p.s1, (.slice aS p.S.n cS), (.slice aC p.C.n cC), .int .i64 p.ne, .int .i64 p.ed, .int .i64 p.gr, .int .i64 p.lo, .int .i64 p.hi, .int .i64 p.sh, .int .i64 p.wi] 26 → Blk W (w.heap.size + 1) #[.int .i64 wt] 3 → Blk W (w.heap.size + 1 + 1) #[.int .i64 mi] 3 → Calls Try.prog 79 #[.int .i64 5001, .func (.func 80) #[] #[.pointer (some ⟨w.heap.size, 0, none⟩), .pointer (some ⟨w.heap.size + 1 + 1, 0, none⟩), .pointer (some ⟨w.heap.size + 1, 0, none⟩)]] W fun e w' => ∃ k : Nat, e = .returned (.int .i64 k) ∧ k ≤ 5001 ∧ (k < 5001 → decide (wt ≤ limV p false (k : Int) mi / 1000000000000) = true) ∧ (∀ j, k = j + 1 → decide (wt ≤ limV p false (j : Int) mi / 1000000000000) = false) ∧ Below W.heap.size W w') := fun W hW k1 k2 k3 =>
    search4_in 5001 (by decide) _ _ _ (fun d => decide (wt ≤ limV p false (d : Int) mi / 1000000000000)) W (fun i hi U hU => needc_any p hp aS aC cS cC _ _ i (by omega) _ _ _ U ((hS.later hW).later hU) ((hC.later hW).later hU) (k1.call hU) (k3.call hU) (k2.call hU))
  clear hS hC hp
  go_enter Try.func26, Try.ntmps26
  go_wp2_with fail
  refine wp_region_held_drew (S := (fun w' => Blk w' w.heap.size #[.int .i64 p.s0, .int .i64 p.s1, (.slice aS p.S.n cS), (.slice aC p.C.n cC), .int .i64 p.ne, .int .i64 p.ed, .int .i64 p.gr, .int .i64 p.lo, .int .i64 p.hi, .int .i64 p.sh, .int .i64 p.wi] 26 ∧ Blk w' (w.heap.size + 1) #[.int .i64 wt] 3 ∧ Blk w' (w.heap.size + 1 + 1) #[.int .i64 mi] 3 ∧ Below w.heap.size w w')) (by kernel_rfl) ?_ (fun hH => ?_)
  · (try dsimp only); (exact ⟨jP.drew, jA.drew, jD.drew, jB.drew⟩)
  refine tkY 0 (some 10) ?_ ?_ ?_
  rotate_left
  · intro w hS0; (try dsimp only at hS0); obtain ⟨kp, kv, kw, _⟩ := hS0; obtain ⟨c0, c1, c2, c3, c4, c5, c6, c7, c8, c9, c10⟩ := kp.c11; have v0 := kv.cell1; have w0 := kw.cell1; have y1 := kp.lt; have y2 := kv.lt; have y3 := kw.lt;go_simp; (try with_reducible rfl)
  (try simp only [cq])
  refine tkY 2 (some 12) ?_ ?_ ?_
  rotate_left
  · intro w hS0; (try dsimp only at hS0); obtain ⟨kp, kv, kw, _⟩ := hS0; obtain ⟨c0, c1, c2, c3, c4, c5, c6, c7, c8, c9, c10⟩ := kp.c11; have v0 := kv.cell1; have w0 := kw.cell1; have y1 := kp.lt; have y2 := kv.lt; have y3 := kw.lt;go_simp; (try with_reducible rfl)
  (try simp only [cq])
  refine tkY 4 (some 14) ?_ ?_ ?_
  rotate_left
  · intro w hS0; (try dsimp only at hS0); obtain ⟨kp, kv, kw, _⟩ := hS0; obtain ⟨c0, c1, c2, c3, c4, c5, c6, c7, c8, c9, c10⟩ := kp.c11; have v0 := kv.cell1; have w0 := kw.cell1; have y1 := kp.lt; have y2 := kv.lt; have y3 := kw.lt;go_simp; (try with_reducible rfl)
  (try simp only [cq])
  refine wpAnyH_ready (rs := [1]) (by kernel_rfl) (by simp) ?_
  refine arc1 (some 11) fun K hK => ?_
  go_simp
  (refine (HC.out _ hH.2.2.2).mono ?_; rintro e w' ⟨rfl, hb⟩)
  refine hK.out _ _ ?_ ?_
  · (exact ⟨hH.1.call hb, hH.2.1.call hb, hH.2.2.1.call hb, bwS hH.2.2.2 (Nat.le_refl _) hb⟩)
  (try clear hH); (try clear hb)
  intro hH
  clear hK K
  (try simp only [cq])
  refine wpAnyH_ready (rs := [3]) (by kernel_rfl) (by simp) ?_
  refine arc1 (some 13) fun K hK => ?_
  go_simp
  (refine (number_any _ _ _ _).mono ?_; rw [ez1]; rintro e w' ⟨rfl, rfl⟩)
  refine hK.out _ _ ?_ ?_
  · exact hH
  (try clear hH); (try clear hb)
  intro hH
  clear hK K
  (try simp only [cq])
  refine wpAnyH_ready (rs := [5]) (by kernel_rfl) (by simp) ?_
  refine arc1 (some 15) fun K hK => ?_
  go_simp
  (refine (stand_any _ _).mono ?_; rw [ez2]; rintro e w' ⟨rfl, rfl⟩)
  refine hK.out _ _ ?_ ?_
  · exact hH
  (try clear hH); (try clear hb)
  intro hH
  clear hK K
  (try simp only [cq])
  refine wpAnyH_ready (rs := [6]) (by kernel_rfl) (by simp) ?_
  refine arc1 (some 16) fun K hK => ?_
  go_simp
  refine hK.out _ _ ?_ ?_
  · exact ⟨hH.1.alloc _, hH.2.1.alloc _, hH.2.2.1.alloc _, bwA hH.2.2.2 (Nat.le_refl _) _⟩
  (try clear hH); (try clear hb)
  intro hH
  clear hK K
  (try simp only [cq])
  refine wpAnyH_ready (rs := [7]) (by kernel_rfl) (by simp) ?_
  refine arc1 (some 17) fun K hK => ?_
  go_simp
  (refine (first_three _ _ 0 0 0 _ (by simp) (by simp) (by simp)).mono ?_; rw [show orE 0 (orE 0 0) = 0 from rfl]; rintro e w' ⟨rfl, rfl⟩)
  refine hK.out _ _ ?_ ?_
  · exact hH
  (try clear hH); (try clear hb)
  intro hH
  clear hK K
  (try simp only [cq])
  refine tkY 8 (some 8) ?_ ?_ ?_
  rotate_left
  · intro w _; go_simp; (try with_reducible rfl)
  (try simp only [cq])
  refine wpAnyH_done (by kernel_rfl) ?_ _
  (try dsimp only [Act.put])
  (try simp only [cq])
  clear jP jA jD jB HC
  obtain ⟨jP, jA, jD, jB⟩ := hH
  go_wp2_with fail
  refine (HSr.out _ jB jP jA jD).mono ?_
  rintro e w5 ⟨k, rfl, k1, k2, k3, hb⟩
  have HK := Lib.hid (And.intro k1 (And.intro k2 k3))
  replace jB := bwS jB (Nat.le_refl _) hb
  clear hb k1 k2 k3 jP jA jD HSr
  by_cases hk : k ≤ 5000
  · have h5 : ¬ (5000 : Int) < (k : Int) := by omega
    go_wp2
    obtain ⟨k1, k2, k3⟩ := HK.out
    exact bodyPost_ret (v := .tuple #[.int .i64 k, .int .i64 0]) (by simp [results, Try.results26, go_sem]) rfl ⟨⟨k, .inl ⟨rfl, hk, by simpa using k2 (by omega), fun j h => by simpa using k3 j h⟩⟩, jB⟩
  · have h5 : (5000 : Int) < (k : Int) := by omega
    go_wp2
    obtain ⟨k1, k2, k3⟩ := HK.out
    exact bodyPost_ret (v := .tuple #[.int .i64 0, .int .i64 14]) (by simp [results, Try.results26, go_sem]) rfl ⟨⟨k, .inr ⟨rfl, by have := k3 5000 (by omega); simpa using this⟩⟩, jB⟩
end Go.Proofs.Ytkkljbbgaogifaa

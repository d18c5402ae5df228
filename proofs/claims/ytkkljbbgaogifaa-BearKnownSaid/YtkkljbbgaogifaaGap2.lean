/-
  bear.Gap, whatever comes in.
-/
import Derived.Test.YtkkljbbgaogifaaTail
import Derived.Test.YtkkljbbgaogifaaGap
import Derived.Test.YtkkljbbgaogifaaGapN
import Derived.Test.YtkkljbbgaogifaaLeast2
set_option linter.unusedVariables false
set_option linter.unusedSimpArgs false
namespace Go.Proofs.Ytkkljbbgaogifaa
open Go.RowKit

theorem gap1_one (i : Int) (a c : Int) (w : World) :
    Calls Try.prog 96 #[.int .i64 i, .agg #[.int .i64 a, .int .i64 c]] w fun e w' => e = .returned (.int .i64 (eS a c 0 200000)) ∧ Below w.heap.size w w' := by
  go_enter Try.func96, Try.ntmps96
  go_wp2_with fail
  refine (weight_any _ _ _).mono ?_
  rintro e w' ⟨rfl, hb⟩
  have hBB : Below w.heap.size w w' := bwS (by (repeat (first | exact Below.refl _ _ | assumption | refine Below.drew ?_ | refine Below.drewN ?_ _ | refine blT ?_ | refine blU ?_))) (by first | exact Nat.le_refl _ | (simp; done) | (simp; omega)) hb
  clear hb
  go_wp2
  go_ret
  exact ⟨rfl, hBB⟩

set_option maxHeartbeats 1000000 in
theorem splg_some  (b o n cap : Nat) (A B : Nat → Int) (w : World) (hm : n ≤ 30) (hcap : n ≤ cap) (hl : cap ≤ 9223372036854775807)
    (hc : ∀ i, i < n → w.cell? ⟨b, o + i * 2, none⟩ = some (.int .i64 (A i)) ∧ w.cell? ⟨b, o + i * 2 + 1, none⟩ = some (.int .i64 (B i))) :
    Calls Try.prog 95 #[.slice (some ⟨b, o, none⟩) n cap, .int .i64 30, .func (.func 96) #[] #[]] w fun e w' => e = .returned (.int .i64 (firstNZ (fun i => eS (A i) (B i) 0 200000) 0 n)) ∧ Below w.heap.size w w' := by
  have hE : eM n 30 = 0 := by unfold eM; rw [if_neg (by omega)]
  have HC : Hid _ := hc
  have HK : Hid (∀ (i : Nat) (_ : i < n) (W : World), Below w.heap.size w W → Calls Try.prog 96 #[.int .i64 i, .agg #[.int .i64 (A i), .int .i64 (B i)]] W fun e w' => e = .returned (.int .i64 (eS (A i) (B i) 0 200000)) ∧ Below W.heap.size W w') := fun i hi W hW => gap1_one i (A i) (B i) W
  have HF : ∃ X : Nat → Int, X = fun i => eS (A i) (B i) 0 200000 := ⟨_, rfl⟩
  obtain ⟨X, HF⟩ := HF
  rw [← HF]
  have HX : Hid (∀ i : Nat, eS (A i) (B i) 0 200000 = X i) := fun i => by rw [HF]
  clear hc HF
  go_enter Try.func95, Try.ntmps95
  go_wp2_with (go_at_call 134; refine (most_any _ _ _).mono ?_; rintro e w' ⟨rfl, rfl⟩)
  go_loopw [20] (fun i wr => ∃ k : Nat, k ≤ n ∧ i = .int .i64 k ∧ firstNZ X 0 n = firstNZ X k (n - k) ∧ Below w.heap.size w wr) (fun i _ => n - (intOf i).toNat)
  case atStart => exact ⟨0, Nat.zero_le _, rfl, rfl, Below.refl _ _⟩
  case round =>
    obtain ⟨k, hk, rfl, hd, hB⟩ := hrel
    have HD : Hid _ := hd
    clear hd
    by_cases hlt2 : k < n
    · obtain ⟨a0, a1⟩ := HC.out k (by omega)
      replace a0 := cell_later hB a0
      replace a1 := cell_later hB a1
      have hbs := World.block_lt_of_cell? _ _ a0
      have hws : w.heap.size ≤ wr.heap.size := hB.size
      have HH0 : Hid (∀ _ : X k = 0, Hid _) := fun h => firstNZ_step0 X n k (by omega) h
      have HH1 : Hid (∀ _ : ¬ X k = 0, Hid _) := fun h => firstNZ_stepN X n k (by omega) h
      have HXk := Lib.hid (HX.out k)
      go_wp2_with fail
      refine (HK.out k hlt2 _ ?_).mono ?_
      · (repeat (first | exact Below.refl _ _ | assumption | refine Below.drew ?_ | refine Below.drewN ?_ _ | refine blT ?_ | refine blU ?_))
      rw [HXk.out]
      rintro e w2 ⟨rfl, hb2⟩
      have hBB : Below w.heap.size w w2 := bwS (by (repeat (first | exact Below.refl _ _ | assumption | refine Below.drew ?_ | refine Below.drewN ?_ _ | refine blT ?_ | refine blU ?_))) (by first | exact Nat.le_refl _ | (simp; done) | (simp; omega)) hb2
      clear hb2
      by_cases hz2 : X k = 0
      · have H0 := HH0.out hz2
        have hz3 : (X k != 0) = false := by simpa using hz2
        clear hz2
        go_wp2
        go_roundw
        case rel => exact ⟨k + 1, by omega, by go_num, by rw [HD.out, H0.out], hBB⟩
        case measure => simp [intOf]; omega
      · have H0 := HH1.out hz2
        have hz3 : (X k != 0) = true := by simpa using hz2
        clear hz2
        go_wp2
        go_ret
        exact ⟨by rw [HD.out, H0.out]; rfl, hBB⟩
    · go_wp2
      go_ret
      have : n - k = 0 := by omega
      exact ⟨by rw [HD.out, this]; rfl, hB⟩

theorem splg_any (v : Value) (n : Nat) (A B : Nat → Int) (w : World) (h : PairsAt w v n A B) :
    Calls Try.prog 95 #[v, .int .i64 30, .func (.func 96) #[] #[]] w fun e w' => e = .returned (.int .i64 (eSps 200000 n 30 A B)) ∧ Below w.heap.size w w' := by
  obtain ⟨a, cap, rfl, h1, h2, h3⟩ := h
  unfold eSps
  by_cases h0 : n = 0
  · subst h0
    rw [if_neg (by omega)]
    exact (spl_none _ 30 (by decide) a cap w).mono fun e w' ⟨he, hw⟩ => ⟨he, hw ▸ Below.refl _ _⟩
  by_cases h12 : (30 : Int) < n
  · rw [if_pos h12]
    exact (spl_many _ 30 a n cap w h12 (by omega)).mono fun e w' ⟨he, hw⟩ => ⟨he, hw ▸ Below.refl _ _⟩
  rw [if_neg h12]
  obtain ⟨b, o, rfl, hc⟩ := h3 (by omega)
  exact splg_some b o n cap A B w (by omega) h1 h2 hc

set_option maxRecDepth 100000 in
set_option maxHeartbeats 4000000 in
theorem gapc_any (p : Pl) (hp : p.Ok) (aS aC aW : Option Addr) (cS cC cW : Nat) (th : Int) (ht : 0 ≤ th ∧ th ≤ 5000) (n : Nat) (W0 W1 : Nat → Int) (hn : n ≤ 30) (hW : ∀ i, i < n → 0 ≤ W0 i ∧ W0 i ≤ W1 i ∧ W1 i ≤ 200000) (d : Nat) (hd : d ≤ 10000) (bp bt bw : Nat) (w : World)
    (hS : TabAt w (.slice aS p.S.n cS) p.S) (hC : TabAt w (.slice aC p.C.n cC) p.C) (hw : PairsAt w (.slice aW n cW) n W0 W1) (kp : Blk w bp #[.int .i64 p.s0, .int .i64 p.s1, (.slice aS p.S.n cS), (.slice aC p.C.n cC), .int .i64 p.ne, .int .i64 p.ed, .int .i64 p.gr, .int .i64 p.lo, .int .i64 p.hi, .int .i64 p.sh, .int .i64 p.wi] 26) (kt : Blk w bt #[.int .i64 th] 3) (kw : Blk w bw #[.slice aW n cW] 42) :
    Calls Try.prog 97 #[.int .i64 d, .pointer (some ⟨bp, 0, none⟩), .pointer (some ⟨bt, 0, none⟩), .pointer (some ⟨bw, 0, none⟩)] w fun e w' => e = .returned (.bool (gapF p th n W0 W1 d)) ∧ Below w.heap.size w w' := by
  have HRw : Hid (∀ W, Below w.heap.size w W → Calls Try.prog 99 #[.slice aW n cW, .int .i64 d] W fun e w' => ∃ u, e = .returned u ∧ LoadsAt w' u n (rowL W0 W1 d) ∧ Below W.heap.size W w') := fun W hW' => row_any _ n W0 W1 d (by omega) (by omega) W (hw.later hW')
  have HBA : Hid (∀ u W, Below w.heap.size w W → LoadsAt W u n (rowL W0 W1 d) → Calls Try.prog 98 #[.agg #[.int .i64 p.s0, .int .i64 p.s1, (.slice aS p.S.n cS), (.slice aC p.C.n cC), .int .i64 p.ne, .int .i64 p.ed, .int .i64 p.gr, .int .i64 p.lo, .int .i64 p.hi, .int .i64 p.sh, .int .i64 p.wi], .int .i64 th, u] W fun e w' => e = .returned (.bool (gapF p th n W0 W1 d)) ∧ Below W.heap.size W w') := fun u W hW' hu =>
    bearsall_any p hp _ _ u th ht n (rowL W0 W1 d) ⟨hn, fun i hi => by
      have q := hW i hi
      have m0 := Int.mul_nonneg (show (0 : Int) ≤ (d : Int) by omega) (show (0 : Int) ≤ (i : Int) by omega)
      have m1 := Int.mul_le_mul (show (d : Int) ≤ 10000 by omega) (show (i : Int) ≤ 30 by omega) (by omega) (by omega : (0 : Int) ≤ 10000)
      exact ⟨q.1, q.2.1, q.2.2, m0, by show (d : Int) * (i : Int) ≤ 1000000000; omega, Int.le_refl _⟩⟩ W (PairsAt.later hS hW') (PairsAt.later hC hW') hu
  generalize gapF p th n W0 W1 d = r at HBA ⊢
  have HK := Lib.hid (And.intro kp (And.intro kt kw))
  generalize rowL W0 W1 d = L at HRw HBA
  clear hS hC hw hp kp kt kw hW ht hd
  go_enter Try.func97, Try.ntmps97
  go_wp2_with fail
  refine wp_region_held_drew (S := (fun w' => Below w.heap.size w w')) (by kernel_rfl) ?_ (fun hH => ?_)
  · (try dsimp only); (exact (Below.refl _ _).drew)
  refine tkY 0 (some 6) ?_ ?_ ?_
  rotate_left
  · intro w hS0; (try dsimp only at hS0); have kp := HK.out.1.call hS0; have kt := HK.out.2.1.call hS0; have kw := HK.out.2.2.call hS0; obtain ⟨c0, c1, c2, c3, c4, c5, c6, c7, c8, c9, c10⟩ := kp.c11; have v0 := kt.cell1; have w0 := kw.cell1; have y1 := kp.lt; have y2 := kt.lt; have y3 := kw.lt;go_simp; (try with_reducible rfl)
  (try simp only [cq])
  refine tkY 1 (some 7) ?_ ?_ ?_
  rotate_left
  · intro w hS0; (try dsimp only at hS0); have kp := HK.out.1.call hS0; have kt := HK.out.2.1.call hS0; have kw := HK.out.2.2.call hS0; obtain ⟨c0, c1, c2, c3, c4, c5, c6, c7, c8, c9, c10⟩ := kp.c11; have v0 := kt.cell1; have w0 := kw.cell1; have y1 := kp.lt; have y2 := kt.lt; have y3 := kw.lt;go_simp; (try with_reducible rfl)
  (try simp only [cq])
  refine tkY 2 (some 8) ?_ ?_ ?_
  rotate_left
  · intro w hS0; (try dsimp only at hS0); have kp := HK.out.1.call hS0; have kt := HK.out.2.1.call hS0; have kw := HK.out.2.2.call hS0; obtain ⟨c0, c1, c2, c3, c4, c5, c6, c7, c8, c9, c10⟩ := kp.c11; have v0 := kt.cell1; have w0 := kw.cell1; have y1 := kp.lt; have y2 := kt.lt; have y3 := kw.lt;go_simp; (try with_reducible rfl)
  (try simp only [cq])
  refine tkY 3 (some 9) ?_ ?_ ?_
  rotate_left
  · intro w _; go_simp; (try with_reducible rfl)
  (try simp only [cq])
  refine wpAnyH_ready (rs := [4]) (by kernel_rfl) (by simp) ?_
  refine arc1 (some 10) fun K hK => ?_
  go_simp
  (refine (HRw.out _ hH).mono ?_; rintro e w' ⟨u, rfl, hu, hb⟩; have HU := Lib.hid hu; clear hu)
  refine hK.out _ _ ?_ ?_
  · (exact bwS hH (Nat.le_refl _) hb)
  (try clear hH); (try clear hb)
  intro hH
  clear hK K
  (try simp only [cq])
  refine wpAnyH_ready (rs := [5]) (by kernel_rfl) (by simp) ?_
  refine arc1 (some 11) fun K hK => ?_
  go_simp
  (refine (HBA.out _ _ hH HU.out).mono ?_; rintro e w' ⟨rfl, hb⟩)
  refine hK.out _ _ ?_ ?_
  · (exact bwS hH (Nat.le_refl _) hb)
  (try clear hH); (try clear hb)
  intro hH
  clear hK K
  (try simp only [cq])
  refine tkY 6 (some 5) ?_ ?_ ?_
  rotate_left
  · intro w _; go_simp; (try with_reducible rfl)
  (try simp only [cq])
  refine wpAnyH_done (by kernel_rfl) ?_ _
  (try dsimp only [Act.put])
  (try simp only [cq])
  go_wp2
  go_ret
  exact ⟨rfl, hH⟩

set_option maxRecDepth 100000 in
set_option maxHeartbeats 4000000 in
theorem search5_in (n : Nat) (hn : n ≤ 1000000) (p q r : Value) (f : Nat → Bool) (w : World) (hf : ∀ i, i < n → ∀ W, Below w.heap.size w W → Calls Try.prog 97 #[.int .i64 i, p, q, r] W fun e w' => e = .returned (.bool (f i)) ∧ Below W.heap.size W w') :
    Calls Try.prog 79 #[.int .i64 n, .func (.func 97) #[] #[p, q, r]] w fun e w' => ∃ k : Nat, e = .returned (.int .i64 k) ∧ k ≤ n ∧ (k < n → f k = true) ∧ (∀ j, k = j + 1 → f j = false) ∧ Below w.heap.size w w' := by
  have HF := Lib.hid hf
  clear hf
  go_enter Try.func79, Try.ntmps79
  go_wp2_with fail
  go_loopw [5, 6, 7] (fun vi vj vh wr => ∃ i j : Nat, i ≤ j ∧ j ≤ n ∧ vi = .int .i64 i ∧ vj = .int .i64 j ∧ (j < n → f j = true) ∧ (∀ q, i = q + 1 → f q = false) ∧ Below w.heap.size w wr) (fun vi vj _ _ => (intOf vj).toNat - (intOf vi).toNat)
  case atStart => exact ⟨0, n, Nat.zero_le _, Nat.le_refl _, rfl, rfl, fun h => absurd h (Nat.lt_irrefl _), fun q h => by omega, Below.refl _ _⟩
  case round =>
    obtain ⟨i, j, hij, hjn, rfl, rfl, h1, h2, hIw⟩ := hrel
    have H1 := Lib.hid h1
    have H2 := Lib.hid h2
    clear h1 h2
    by_cases hlt : i < j
    · have e1 : IntKind.i64.wrap ((i : Int) + (j : Int)) = (i : Int) + (j : Int) := IntWalk.i64_in _ (by omega)
      go_wp2_with fail
      have hh : ((i : Int) + (j : Int)) / 2 = (((i + j) / 2 : Nat) : Int) := by omega
      simp only [hh]
      clear hh e1
      obtain ⟨h, hh⟩ : ∃ h, (i + j) / 2 = h := ⟨_, rfl⟩
      have b1 : i ≤ h := by omega
      have b2 : h < j := by omega
      rw [hh]
      clear hh
      refine (HF.out h (by omega) _ hIw).mono ?_
      rintro e w2 ⟨rfl, hb⟩
      have hI2 := bwS hIw (Nat.le_refl _) hb
      clear hb
      have e3 : IntKind.i64.wrap ((h : Int) + 1) = (h : Int) + 1 := IntWalk.i64_in _ (by omega)
      cases hv : f h with
      | true =>
        have H3 := Lib.hid hv
        clear hv
        go_wp2
        go_roundw
        case rel => exact ⟨i, h, b1, by omega, rfl, rfl, fun _ => H3.out, H2.out, hI2⟩
        case measure => simp [intOf]; omega
      | false =>
        have H3 := Lib.hid hv
        clear hv
        go_wp2
        go_roundw
        case rel => exact ⟨h + 1, j, by omega, hjn, by go_num, rfl, H1.out, fun q hq => by rw [← show h = q by omega]; exact H3.out, hI2⟩
        case measure => simp [intOf]; omega
    · have hij2 : j = i := by omega
      subst hij2
      go_wp2
      go_ret
      exact ⟨_, rfl, hjn, H1.out, H2.out, hIw⟩

set_option maxRecDepth 100000 in
set_option maxHeartbeats 8000000 in
theorem gap_any (p : Pl) (vS vC vW : Value) (th : Int) (n : Nat) (W0 W1 : Nat → Int) (w : World) (hS : TabAt w vS p.S) (hC : TabAt w vC p.C) (hw : PairsAt w vW n W0 W1) :
    Calls Try.prog 42 #[.agg #[.int .i64 p.s0, .int .i64 p.s1, vS, vC, .int .i64 p.ne, .int .i64 p.ed, .int .i64 p.gr, .int .i64 p.lo, .int .i64 p.hi, .int .i64 p.sh, .int .i64 p.wi], .int .i64 th, vW] w fun e w' => e = .returned (.tuple #[.int .i64 (gapR p th n W0 W1), .int .i64 (eGap p th n W0 W1)]) ∧ Below w.heap.size w w' := by
  obtain ⟨aS, cS, rfl, _, _, _⟩ := id hS
  obtain ⟨aC, cC, rfl, _, _, _⟩ := id hC
  obtain ⟨aW, cW, rfl, _, _, _⟩ := id hw
  have HC : Hid (∀ W, Below w.heap.size w W → Calls Try.prog 30 #[.agg #[.int .i64 p.s0, .int .i64 p.s1, (.slice aS p.S.n cS), (.slice aC p.C.n cC), .int .i64 p.ne, .int .i64 p.ed, .int .i64 p.gr, .int .i64 p.lo, .int .i64 p.hi, .int .i64 p.sh, .int .i64 p.wi]] W fun e w' => e = .returned (.int .i64 (ePl p)) ∧ Below W.heap.size W w') := fun W hW => check_any p _ _ W (PairsAt.later hS hW) (PairsAt.later hC hW)
  have HL : Hid (∀ W, Below w.heap.size w W → Calls Try.prog 95 #[.slice aW n cW, .int .i64 30, .func (.func 96) #[] #[]] W fun e w' => e = .returned (.int .i64 (eSps 200000 n 30 W0 W1)) ∧ Below W.heap.size W w') := fun W hW => splg_any _ n W0 W1 W (hw.later hW)
  obtain ⟨q, hq⟩ : ∃ q, lstV (gapF p th n W0 W1) 10001 = q := ⟨_, rfl⟩
  have HSr : Hid (eGap p th n W0 W1 = 0 → ∀ W, Below w.heap.size w W → Blk W w.heap.size #[.int .i64 p.s0, .int .i64 p.s1, (.slice aS p.S.n cS), (.slice aC p.C.n cC), .int .i64 p.ne, .int .i64 p.ed, .int .i64 p.gr, .int .i64 p.lo, .int .i64 p.hi, .int .i64 p.sh, .int .i64 p.wi] 26 → Blk W (w.heap.size + 1) #[.int .i64 th] 3 → Blk W (w.heap.size + 1 + 1) #[.slice aW n cW] 42 → Calls Try.prog 79 #[.int .i64 10001, .func (.func 97) #[] #[.pointer (some ⟨w.heap.size, 0, none⟩), .pointer (some ⟨w.heap.size + 1, 0, none⟩), .pointer (some ⟨w.heap.size + 1 + 1, 0, none⟩)]] W fun e w' => e = .returned (.int .i64 q) ∧ Below W.heap.size W w') := fun h0 W hW k1 k2 k3 => by
    obtain ⟨h1, h2⟩ := orE_inv h0
    obtain ⟨h3, h4⟩ := orE_inv h2
    have hp := ePl_inv h1
    have hs := eSps_inv h4
    refine (search5_in 10001 (by decide) _ _ _ (gapF p th n W0 W1) W (fun i hi U hU => gapc_any p hp aS aC aW cS cC cW th (eN_inv h3) n W0 W1 (by omega) hs.2 i (by omega) _ _ _ U (PairsAt.later (PairsAt.later hS hW) hU) (PairsAt.later (PairsAt.later hC hW) hU) ((hw.later hW).later hU) (k1.call hU) (k2.call hU) (k3.call hU))).mono ?_
    rintro e w' ⟨k, rfl, f1, f2, f3, hb⟩
    have e : lstV (gapF p th n W0 W1) 10001 = k := lstV_two (gapF_up hp (fun i hi => by have := hs.2 i hi; omega)) f1 f2 f3
    rw [← hq, e]
    exact ⟨rfl, hb⟩
  have HH : Hid (gapR p th n W0 W1 = if eGap p th n W0 W1 = 0 then (if q ≤ 10000 then (q : Int) else -1) else 0) := by rw [← hq]; exact rfl
  have HQ : Hid (q ≤ 10001) := by rw [← hq]; exact (lstV_prop _ _).1
  generalize gapR p th n W0 W1 = g at HH ⊢
  obtain ⟨r, hr⟩ : ∃ r, eGap p th n W0 W1 = r := ⟨_, rfl⟩
  rw [hr] at HSr HH ⊢
  unfold eGap at hr
  obtain ⟨x2, hx2⟩ : ∃ x, eN th 0 5000 = x := ⟨_, rfl⟩
  rw [hx2] at hr
  generalize eSps 200000 n 30 W0 W1 = x3 at HL hr
  generalize ePl p = x1 at HC hr
  have HX2 := Lib.hid hx2
  have HE := Lib.hid hr
  clear hS hC hw hq hr hx2
  have jP := ((Blk.new w #[.int .i64 p.s0, .int .i64 p.s1, (.slice aS p.S.n cS), (.slice aC p.C.n cC), .int .i64 p.ne, .int .i64 p.ed, .int .i64 p.gr, .int .i64 p.lo, .int .i64 p.hi, .int .i64 p.sh, .int .i64 p.wi] 26).alloc (.cells #[.int .i64 th] 3)).alloc (.cells #[.slice aW n cW] 42)
  have jA := (Blk.new1 w (.cells #[.int .i64 p.s0, .int .i64 p.s1, (.slice aS p.S.n cS), (.slice aC p.C.n cC), .int .i64 p.ne, .int .i64 p.ed, .int .i64 p.gr, .int .i64 p.lo, .int .i64 p.hi, .int .i64 p.sh, .int .i64 p.wi] 26) #[.int .i64 th] 3).alloc (.cells #[.slice aW n cW] 42)
  have jD := Blk.new2 w (.cells #[.int .i64 p.s0, .int .i64 p.s1, (.slice aS p.S.n cS), (.slice aC p.C.n cC), .int .i64 p.ne, .int .i64 p.ed, .int .i64 p.gr, .int .i64 p.lo, .int .i64 p.hi, .int .i64 p.sh, .int .i64 p.wi] 26) (.cells #[.int .i64 th] 3) #[.slice aW n cW] 42
  have jB : Below w.heap.size w (((w.alloc (.cells #[.int .i64 p.s0, .int .i64 p.s1, (.slice aS p.S.n cS), (.slice aC p.C.n cC), .int .i64 p.ne, .int .i64 p.ed, .int .i64 p.gr, .int .i64 p.lo, .int .i64 p.hi, .int .i64 p.sh, .int .i64 p.wi] 26)).alloc (.cells #[.int .i64 th] 3)).alloc (.cells #[.slice aW n cW] 42)) := by (repeat (first | exact Below.refl _ _ | assumption | refine Below.drew ?_ | refine Below.drewN ?_ _ | refine blT ?_ | refine blU ?_))
  go_enter Try.func42, Try.ntmps42
  go_wp2_with fail
  refine wp_region_held_drew (S := (fun w' => Blk w' w.heap.size #[.int .i64 p.s0, .int .i64 p.s1, (.slice aS p.S.n cS), (.slice aC p.C.n cC), .int .i64 p.ne, .int .i64 p.ed, .int .i64 p.gr, .int .i64 p.lo, .int .i64 p.hi, .int .i64 p.sh, .int .i64 p.wi] 26 ∧ Blk w' (w.heap.size + 1) #[.int .i64 th] 3 ∧ Blk w' (w.heap.size + 1 + 1) #[.slice aW n cW] 42 ∧ Below w.heap.size w w')) (by kernel_rfl) ?_ (fun hH => ?_)
  · (try dsimp only); (exact ⟨jP.drew, jA.drew, jD.drew, jB.drew⟩)
  refine tkY 0 (some 10) ?_ ?_ ?_
  rotate_left
  · intro w hS0; (try dsimp only at hS0); obtain ⟨kp, kv, kw, _⟩ := hS0; obtain ⟨c0, c1, c2, c3, c4, c5, c6, c7, c8, c9, c10⟩ := kp.c11; have v0 := kv.cell1; have w0 := kw.cell1; have y1 := kp.lt; have y2 := kv.lt; have y3 := kw.lt;go_simp; (try with_reducible rfl)
  (try simp only [cq])
  refine tkY 2 (some 12) ?_ ?_ ?_
  rotate_left
  · intro w hS0; (try dsimp only at hS0); obtain ⟨kp, kv, kw, _⟩ := hS0; obtain ⟨c0, c1, c2, c3, c4, c5, c6, c7, c8, c9, c10⟩ := kp.c11; have v0 := kv.cell1; have w0 := kw.cell1; have y1 := kp.lt; have y2 := kv.lt; have y3 := kw.lt;go_simp; (try with_reducible rfl)
  (try simp only [cq])
  refine tkY 4 (some 14) ?_ ?_ ?_
  rotate_left
  · intro w hS0; (try dsimp only at hS0); obtain ⟨kp, kv, kw, _⟩ := hS0; obtain ⟨c0, c1, c2, c3, c4, c5, c6, c7, c8, c9, c10⟩ := kp.c11; have v0 := kv.cell1; have w0 := kw.cell1; have y1 := kp.lt; have y2 := kv.lt; have y3 := kw.lt;go_simp; (try with_reducible rfl)
  (try simp only [cq])
  refine wpAnyH_ready (rs := [1]) (by kernel_rfl) (by simp) ?_
  refine arc1 (some 11) fun K hK => ?_
  go_simp
  (refine (HC.out _ hH.2.2.2).mono ?_; rintro e w' ⟨rfl, hb⟩)
  refine hK.out _ _ ?_ ?_
  · (exact ⟨hH.1.call hb, hH.2.1.call hb, hH.2.2.1.call hb, bwS hH.2.2.2 (Nat.le_refl _) hb⟩)
  (try clear hH); (try clear hb)
  intro hH
  clear hK K
  (try simp only [cq])
  refine wpAnyH_ready (rs := [3]) (by kernel_rfl) (by simp) ?_
  refine arc1 (some 13) fun K hK => ?_
  go_simp
  (refine (thickc_any _ _).mono ?_; rw [HX2.out]; rintro e w' ⟨rfl, rfl⟩)
  refine hK.out _ _ ?_ ?_
  · exact hH
  (try clear hH); (try clear hb)
  intro hH
  clear hK K
  (try simp only [cq])
  refine wpAnyH_ready (rs := [5]) (by kernel_rfl) (by simp) ?_
  refine arc1 (some 15) fun K hK => ?_
  go_simp
  (refine (HL.out _ hH.2.2.2).mono ?_; rintro e w' ⟨rfl, hb⟩)
  refine hK.out _ _ ?_ ?_
  · (exact ⟨hH.1.call hb, hH.2.1.call hb, hH.2.2.1.call hb, bwS hH.2.2.2 (Nat.le_refl _) hb⟩)
  (try clear hH); (try clear hb)
  intro hH
  clear hK K
  (try simp only [cq])
  refine wpAnyH_ready (rs := [6]) (by kernel_rfl) (by simp) ?_
  refine arc1 (some 16) fun K hK => ?_
  go_simp
  refine hK.out _ _ ?_ ?_
  · exact ⟨hH.1.alloc _, hH.2.1.alloc _, hH.2.2.1.alloc _, bwA hH.2.2.2 (Nat.le_refl _) _⟩
  (try clear hH); (try clear hb)
  intro hH
  clear hK K
  (try simp only [cq])
  refine wpAnyH_ready (rs := [7]) (by kernel_rfl) (by simp) ?_
  refine arc1 (some 17) fun K hK => ?_
  go_simp
  (refine (first_three _ _ x1 x2 x3 _ (by simp) (by simp) (by simp)).mono ?_; rw [HE.out]; rintro e w' ⟨rfl, rfl⟩)
  refine hK.out _ _ ?_ ?_
  · exact hH
  (try clear hH); (try clear hb)
  intro hH
  clear hK K
  (try simp only [cq])
  refine tkY 8 (some 8) ?_ ?_ ?_
  rotate_left
  · intro w _; go_simp; (try with_reducible rfl)
  (try simp only [cq])
  refine wpAnyH_done (by kernel_rfl) ?_ _
  (try dsimp only [Act.put])
  (try simp only [cq])
  clear jP jA jD jB HC HL HX2 HE
  obtain ⟨jP, jA, jD, jB⟩ := hH
  by_cases h0 : r = 0
  · subst h0
    have HS2 := Lib.hid (HSr.out rfl)
    clear HSr
    go_wp2_with fail
    refine (HS2.out _ jB jP jA jD).mono ?_
    rintro e w5 ⟨rfl, hb⟩
    replace jB := bwS jB (Nat.le_refl _) hb
    clear hb jP jA jD HS2
    have hg := HH.out
    simp only [eq_self, if_true] at hg
    by_cases hk : q ≤ 10000
    · have h5 : ¬ (10000 : Int) < (q : Int) := by omega
      rw [if_pos hk] at hg
      subst hg
      go_wp2
      exact bodyPost_ret (v := .tuple #[.int .i64 q, .int .i64 0]) (by simp [results, Try.results42, go_sem]) rfl ⟨rfl, jB⟩
    · have h5 : (10000 : Int) < (q : Int) := by omega
      rw [if_neg hk] at hg
      subst hg
      go_wp2
      exact bodyPost_ret (v := .tuple #[.int .i64 (-1), .int .i64 0]) (by simp [results, Try.results42, go_sem]) rfl ⟨rfl, jB⟩
  · have e4 : (r != 0) = true := by simpa using h0
    have HE2 := Lib.hid h0
    clear h0 HSr
    go_wp2
    have hg := HH.out
    rw [if_neg HE2.out] at hg
    subst hg
    exact bodyPost_ret (v := .tuple #[.int .i64 0, .int .i64 r]) (by simp [results, Try.results42, go_sem]) rfl ⟨rfl, jB⟩
end Go.Proofs.Ytkkljbbgaogifaa

/-
  bear.Speed far from the shore: which depths are critical.
-/
import Derived.Test.YtkkljbbgaogifaaTail
import Derived.Test.YtkkljbbgaogifaaHold
import Derived.IntWalk
set_option linter.unusedVariables false
set_option linter.unusedSimpArgs false
namespace Go.Proofs.Ytkkljbbgaogifaa
open Go.RowKit

theorem crit1_any (p : Pl) (hp : p.Ok) (vS vC : Value) (sq lo hi : Int) (hl : 0 ≤ lo ∧ lo ≤ 4000000) (hh : 0 ≤ hi ∧ hi ≤ 4000000) (d : Nat) (hd : d ≤ 10001) (bq bs bp : Nat) (w : World) (kq : Blk w bq #[.int .i64 sq] 3) (ks : Blk w bs #[.int .i64 lo, .int .i64 hi] 23) (kp : Blk w bp #[.int .i64 p.s0, .int .i64 p.s1, vS, vC, .int .i64 p.ne, .int .i64 p.ed, .int .i64 p.gr, .int .i64 p.lo, .int .i64 p.hi, .int .i64 p.sh, .int .i64 p.wi] 26) :
    Calls Try.prog 146 #[.int .i64 d, .pointer (some ⟨bq, 0, none⟩), .pointer (some ⟨bs, 0, none⟩), .pointer (some ⟨bp, 0, none⟩)] w fun e w' => e = .returned (.bool (decide (sq ≤ hi * p.gr * (d : Int)))) ∧ Below w.heap.size w w' := by
  have hg0 := hp.gr0
  have hg1 := hp.gr1
  have m0 := Int.mul_nonneg hh.1 (show 0 ≤ p.gr by omega)
  have m1 := Int.mul_le_mul hh.2 hg1 (by omega) (by omega : (0:Int) ≤ 4000000)
  have d0 : (0 : Int) ≤ d := by omega
  have m2 := Int.mul_nonneg m0 d0
  have m3 := Int.mul_le_mul m1 (show (d : Int) ≤ 10001 by omega) d0 (by omega : (0:Int) ≤ 4000000 * 1000)
  have e1 : IntKind.i64.wrap (hi * p.gr) = hi * p.gr := IntWalk.i64_in _ (by omega)
  have e2 : IntKind.i64.wrap (hi * p.gr * (d : Int)) = hi * p.gr * (d : Int) := IntWalk.i64_in _ (by omega)
  clear hp hg0 hg1 m0 m1 m2 m3 d0 hl hh hd
  have q0 := kq.cell1
  obtain ⟨s0, s1⟩ := ks.c2
  obtain ⟨c0, c1, c2, c3, c4, c5, c6, c7, c8, c9, c10⟩ := kp.c11
  go_enter Try.func146, Try.ntmps146
  go_wp2
  go_ret
  exact ⟨rfl, Below.refl _ _⟩

theorem crit2_any (p : Pl) (hp : p.Ok) (vS vC : Value) (sq lo hi : Int) (hl : 0 ≤ lo ∧ lo ≤ 4000000) (hh : 0 ≤ hi ∧ hi ≤ 4000000) (d : Nat) (hd : d ≤ 10001) (bq bs bp : Nat) (w : World) (kq : Blk w bq #[.int .i64 sq] 3) (ks : Blk w bs #[.int .i64 lo, .int .i64 hi] 23) (kp : Blk w bp #[.int .i64 p.s0, .int .i64 p.s1, vS, vC, .int .i64 p.ne, .int .i64 p.ed, .int .i64 p.gr, .int .i64 p.lo, .int .i64 p.hi, .int .i64 p.sh, .int .i64 p.wi] 26) :
    Calls Try.prog 147 #[.int .i64 d, .pointer (some ⟨bq, 0, none⟩), .pointer (some ⟨bs, 0, none⟩), .pointer (some ⟨bp, 0, none⟩)] w fun e w' => e = .returned (.bool (decide (sq < lo * p.gr * (d : Int)))) ∧ Below w.heap.size w w' := by
  have hg0 := hp.gr0
  have hg1 := hp.gr1
  have m0 := Int.mul_nonneg hl.1 (show 0 ≤ p.gr by omega)
  have m1 := Int.mul_le_mul hl.2 hg1 (by omega) (by omega : (0:Int) ≤ 4000000)
  have d0 : (0 : Int) ≤ d := by omega
  have m2 := Int.mul_nonneg m0 d0
  have m3 := Int.mul_le_mul m1 (show (d : Int) ≤ 10001 by omega) d0 (by omega : (0:Int) ≤ 4000000 * 1000)
  have e1 : IntKind.i64.wrap (lo * p.gr) = lo * p.gr := IntWalk.i64_in _ (by omega)
  have e2 : IntKind.i64.wrap (lo * p.gr * (d : Int)) = lo * p.gr * (d : Int) := IntWalk.i64_in _ (by omega)
  clear hp hg0 hg1 m0 m1 m2 m3 d0 hl hh hd
  have q0 := kq.cell1
  obtain ⟨s0, s1⟩ := ks.c2
  obtain ⟨c0, c1, c2, c3, c4, c5, c6, c7, c8, c9, c10⟩ := kp.c11
  go_enter Try.func147, Try.ntmps147
  go_wp2
  go_ret
  exact ⟨rfl, Below.refl _ _⟩

set_option maxRecDepth 100000 in
set_option maxHeartbeats 4000000 in
theorem search1_in (n : Nat) (hn : n ≤ 1000000) (p q r : Value) (f : Nat → Bool) (w : World) (hf : ∀ i, i < n → ∀ W, Below w.heap.size w W → Calls Try.prog 146 #[.int .i64 i, p, q, r] W fun e w' => e = .returned (.bool (f i)) ∧ Below W.heap.size W w') :
    Calls Try.prog 79 #[.int .i64 n, .func (.func 146) #[] #[p, q, r]] w fun e w' => ∃ k : Nat, e = .returned (.int .i64 k) ∧ k ≤ n ∧ (k < n → f k = true) ∧ (∀ j, k = j + 1 → f j = false) ∧ Below w.heap.size w w' := by
  have HF := Lib.hid hf
  clear hf
  go_enter Try.func79, Try.ntmps79
  go_wp2_with fail
  go_loopw [5, 6, 7] (fun vi vj vh wr => ∃ i j : Nat, i ≤ j ∧ j ≤ n ∧ vi = .int .i64 i ∧ vj = .int .i64 j ∧ (j < n → f j = true) ∧ (∀ q, i = q + 1 → f q = false) ∧ Below w.heap.size w wr) (fun vi vj _ _ => (intOf vj).toNat - (intOf vi).toNat)
  case atStart => exact ⟨0, n, Nat.zero_le _, Nat.le_refl _, rfl, rfl, fun h => absurd h (Nat.lt_irrefl _), fun q h => by omega, Below.refl _ _⟩
  case round =>
    obtain ⟨i, j, hij, hjn, rfl, rfl, h1, h2, hIw⟩ := hrel
    have H1 := Lib.hid h1
    have H2 := Lib.hid h2
    clear h1 h2
    by_cases hlt : i < j
    · have e1 : IntKind.i64.wrap ((i : Int) + (j : Int)) = (i : Int) + (j : Int) := IntWalk.i64_in _ (by omega)
      go_wp2_with fail
      have hh : ((i : Int) + (j : Int)) / 2 = (((i + j) / 2 : Nat) : Int) := by omega
      simp only [hh]
      clear hh e1
      obtain ⟨h, hh⟩ : ∃ h, (i + j) / 2 = h := ⟨_, rfl⟩
      have b1 : i ≤ h := by omega
      have b2 : h < j := by omega
      rw [hh]
      clear hh
      refine (HF.out h (by omega) _ hIw).mono ?_
      rintro e w2 ⟨rfl, hb⟩
      have hI2 := bwS hIw (Nat.le_refl _) hb
      clear hb
      have e3 : IntKind.i64.wrap ((h : Int) + 1) = (h : Int) + 1 := IntWalk.i64_in _ (by omega)
      cases hv : f h with
      | true =>
        have H3 := Lib.hid hv
        clear hv
        go_wp2
        go_roundw
        case rel => exact ⟨i, h, b1, by omega, rfl, rfl, fun _ => H3.out, H2.out, hI2⟩
        case measure => simp [intOf]; omega
      | false =>
        have H3 := Lib.hid hv
        clear hv
        go_wp2
        go_roundw
        case rel => exact ⟨h + 1, j, by omega, hjn, by go_num, rfl, H1.out, fun q hq => by rw [← show h = q by omega]; exact H3.out, hI2⟩
        case measure => simp [intOf]; omega
    · have hij2 : j = i := by omega
      subst hij2
      go_wp2
      go_ret
      exact ⟨_, rfl, hjn, H1.out, H2.out, hIw⟩

set_option maxRecDepth 100000 in
set_option maxHeartbeats 4000000 in
theorem search2_in (n : Nat) (hn : n ≤ 1000000) (p q r : Value) (f : Nat → Bool) (w : World) (hf : ∀ i, i < n → ∀ W, Below w.heap.size w W → Calls Try.prog 147 #[.int .i64 i, p, q, r] W fun e w' => e = .returned (.bool (f i)) ∧ Below W.heap.size W w') :
    Calls Try.prog 79 #[.int .i64 n, .func (.func 147) #[] #[p, q, r]] w fun e w' => ∃ k : Nat, e = .returned (.int .i64 k) ∧ k ≤ n ∧ (k < n → f k = true) ∧ (∀ j, k = j + 1 → f j = false) ∧ Below w.heap.size w w' := by
  have HF := Lib.hid hf
  clear hf
  go_enter Try.func79, Try.ntmps79
  go_wp2_with fail
  go_loopw [5, 6, 7] (fun vi vj vh wr => ∃ i j : Nat, i ≤ j ∧ j ≤ n ∧ vi = .int .i64 i ∧ vj = .int .i64 j ∧ (j < n → f j = true) ∧ (∀ q, i = q + 1 → f q = false) ∧ Below w.heap.size w wr) (fun vi vj _ _ => (intOf vj).toNat - (intOf vi).toNat)
  case atStart => exact ⟨0, n, Nat.zero_le _, Nat.le_refl _, rfl, rfl, fun h => absurd h (Nat.lt_irrefl _), fun q h => by omega, Below.refl _ _⟩
  case round =>
    obtain ⟨i, j, hij, hjn, rfl, rfl, h1, h2, hIw⟩ := hrel
    have H1 := Lib.hid h1
    have H2 := Lib.hid h2
    clear h1 h2
    by_cases hlt : i < j
    · have e1 : IntKind.i64.wrap ((i : Int) + (j : Int)) = (i : Int) + (j : Int) := IntWalk.i64_in _ (by omega)
      go_wp2_with fail
      have hh : ((i : Int) + (j : Int)) / 2 = (((i + j) / 2 : Nat) : Int) := by omega
      simp only [hh]
      clear hh e1
      obtain ⟨h, hh⟩ : ∃ h, (i + j) / 2 = h := ⟨_, rfl⟩
      have b1 : i ≤ h := by omega
      have b2 : h < j := by omega
      rw [hh]
      clear hh
      refine (HF.out h (by omega) _ hIw).mono ?_
      rintro e w2 ⟨rfl, hb⟩
      have hI2 := bwS hIw (Nat.le_refl _) hb
      clear hb
      have e3 : IntKind.i64.wrap ((h : Int) + 1) = (h : Int) + 1 := IntWalk.i64_in _ (by omega)
      cases hv : f h with
      | true =>
        have H3 := Lib.hid hv
        clear hv
        go_wp2
        go_roundw
        case rel => exact ⟨i, h, b1, by omega, rfl, rfl, fun _ => H3.out, H2.out, hI2⟩
        case measure => simp [intOf]; omega
      | false =>
        have H3 := Lib.hid hv
        clear hv
        go_wp2
        go_roundw
        case rel => exact ⟨h + 1, j, by omega, hjn, by go_num, rfl, H1.out, fun q hq => by rw [← show h = q by omega]; exact H3.out, hI2⟩
        case measure => simp [intOf]; omega
    · have hij2 : j = i := by omega
      subst hij2
      go_wp2
      go_ret
      exact ⟨_, rfl, hjn, H1.out, H2.out, hIw⟩

theorem band_far (p : Pl) (aS aC : Option Addr) (nS cS nC cC : Nat) (shore : Int) (hs : p.sh ≤ shore) (w : World) :
    Calls Try.prog 145 #[.agg #[.int .i64 p.s0, .int .i64 p.s1, (.slice aS nS cS), (.slice aC nC cC), .int .i64 p.ne, .int .i64 p.ed, .int .i64 p.gr, .int .i64 p.lo, .int .i64 p.hi, .int .i64 p.sh, .int .i64 p.wi], .int .i64 shore] w fun e w' => e = .returned (.agg #[.int .i64 p.lo, .int .i64 p.hi]) ∧ Below w.heap.size w w' := by
  go_enter Try.func145, Try.ntmps145
  go_wp2
  exact bodyPost_ret (v := .agg #[.int .i64 p.lo, .int .i64 p.hi]) (by simp [results, Try.results145, go_sem]) rfl ⟨rfl, by (go_split_ands; first | assumption | (repeat (first | exact Below.refl _ _ | assumption | refine Below.drew ?_ | refine Below.drewN ?_ _ | refine blT ?_ | refine blU ?_)))⟩

set_option maxHeartbeats 2000000 in
theorem critical_far (p : Pl) (hp : p.Ok) (aS aC : Option Addr) (nS cS nC cC : Nat) (shore v : Int) (hs : p.sh ≤ shore) (hv : 0 ≤ v ∧ v ≤ 1000) (w : World) :
    Calls Try.prog 136 #[.agg #[.int .i64 p.s0, .int .i64 p.s1, (.slice aS nS cS), (.slice aC nC cC), .int .i64 p.ne, .int .i64 p.ed, .int .i64 p.gr, .int .i64 p.lo, .int .i64 p.hi, .int .i64 p.sh, .int .i64 p.wi], .int .i64 shore, .int .i64 v] w fun e w' => ∃ f b : Nat, e = .returned (.agg #[.int .i64 f, .int .i64 ((b : Int) - 1)]) ∧ f ≤ 10001 ∧ b ≤ 10001 ∧ (f < 10001 → v * v * 1000000 ≤ p.hi * p.gr * (f : Int)) ∧ (∀ j, f = j + 1 → ¬ v * v * 1000000 ≤ p.hi * p.gr * ((j : Nat) : Int)) ∧ (b < 10001 → v * v * 1000000 < p.lo * p.gr * (b : Int)) ∧ (∀ j, b = j + 1 → ¬ v * v * 1000000 < p.lo * p.gr * ((j : Nat) : Int)) ∧ Below w.heap.size w w' := by
  have v0 := Int.mul_nonneg hv.1 hv.1
  have v1 := Int.mul_le_mul hv.2 hv.2 hv.1 (by omega : (0:Int) ≤ 1000)
  have e1 : IntKind.i64.wrap (v * v) = v * v := IntWalk.i64_in _ (by omega)
  have e2 : IntKind.i64.wrap (v * v * 1000000) = v * v * 1000000 := IntWalk.i64_in _ (by omega)
  clear v0 v1
  have hlo : 0 ≤ p.lo ∧ p.lo ≤ 4000000 := by have := hp.lo0; have := hp.loh; have := hp.hi1; omega
  have hhi : 0 ≤ p.hi ∧ p.hi ≤ 4000000 := by have := hp.lo0; have := hp.loh; have := hp.hi1; omega
  have jP := (Blk.new w #[.int .i64 p.s0, .int .i64 p.s1, (.slice aS nS cS), (.slice aC nC cC), .int .i64 p.ne, .int .i64 p.ed, .int .i64 p.gr, .int .i64 p.lo, .int .i64 p.hi, .int .i64 p.sh, .int .i64 p.wi] 26).alloc (.cells #[.int .i64 0, .int .i64 0] 23)
  have jO := Blk.new1 w (.cells #[.int .i64 p.s0, .int .i64 p.s1, (.slice aS nS cS), (.slice aC nC cC), .int .i64 p.ne, .int .i64 p.ed, .int .i64 p.gr, .int .i64 p.lo, .int .i64 p.hi, .int .i64 p.sh, .int .i64 p.wi] 26) #[.int .i64 0, .int .i64 0] 23
  have jB : Below w.heap.size w ((w.alloc (.cells #[.int .i64 p.s0, .int .i64 p.s1, (.slice aS nS cS), (.slice aC nC cC), .int .i64 p.ne, .int .i64 p.ed, .int .i64 p.gr, .int .i64 p.lo, .int .i64 p.hi, .int .i64 p.sh, .int .i64 p.wi] 26)).alloc (.cells #[.int .i64 0, .int .i64 0] 23)) := by (repeat (first | exact Below.refl _ _ | assumption | refine Below.drew ?_ | refine Below.drewN ?_ _ | refine blT ?_ | refine blU ?_))
  have H1 : Hid (∀ (bq bs bp : Nat) (W : World), Blk W bq #[.int .i64 (v * v * 1000000)] 3 → Blk W bs #[.int .i64 p.lo, .int .i64 p.hi] 23 → Blk W bp #[.int .i64 p.s0, .int .i64 p.s1, (.slice aS nS cS), (.slice aC nC cC), .int .i64 p.ne, .int .i64 p.ed, .int .i64 p.gr, .int .i64 p.lo, .int .i64 p.hi, .int .i64 p.sh, .int .i64 p.wi] 26 → Calls Try.prog 79 #[.int .i64 10001, .func (.func 146) #[] #[.pointer (some ⟨bq, 0, none⟩), .pointer (some ⟨bs, 0, none⟩), .pointer (some ⟨bp, 0, none⟩)]] W fun e w' => ∃ k : Nat, e = .returned (.int .i64 k) ∧ k ≤ 10001 ∧ (k < 10001 → decide (v * v * 1000000 ≤ p.hi * p.gr * (k : Int)) = true) ∧ (∀ j, k = j + 1 → decide (v * v * 1000000 ≤ p.hi * p.gr * ((j : Nat) : Int)) = false) ∧ Below W.heap.size W w') := fun bq bs bp W kq ks kp =>
    search1_in 10001 (by decide) _ _ _ (fun d => decide (v * v * 1000000 ≤ p.hi * p.gr * (d : Int))) W (fun i hi U hU => crit1_any p hp _ _ _ p.lo p.hi hlo hhi i (by omega) bq bs bp U (kq.call hU) (ks.call hU) (kp.call hU))
  have H2 : Hid (∀ (bq bs bp : Nat) (W : World), Blk W bq #[.int .i64 (v * v * 1000000)] 3 → Blk W bs #[.int .i64 p.lo, .int .i64 p.hi] 23 → Blk W bp #[.int .i64 p.s0, .int .i64 p.s1, (.slice aS nS cS), (.slice aC nC cC), .int .i64 p.ne, .int .i64 p.ed, .int .i64 p.gr, .int .i64 p.lo, .int .i64 p.hi, .int .i64 p.sh, .int .i64 p.wi] 26 → Calls Try.prog 79 #[.int .i64 10001, .func (.func 147) #[] #[.pointer (some ⟨bq, 0, none⟩), .pointer (some ⟨bs, 0, none⟩), .pointer (some ⟨bp, 0, none⟩)]] W fun e w' => ∃ k : Nat, e = .returned (.int .i64 k) ∧ k ≤ 10001 ∧ (k < 10001 → decide (v * v * 1000000 < p.lo * p.gr * (k : Int)) = true) ∧ (∀ j, k = j + 1 → decide (v * v * 1000000 < p.lo * p.gr * ((j : Nat) : Int)) = false) ∧ Below W.heap.size W w') := fun bq bs bp W kq ks kp =>
    search2_in 10001 (by decide) _ _ _ (fun d => decide (v * v * 1000000 < p.lo * p.gr * (d : Int))) W (fun i hi U hU => crit2_any p hp _ _ _ p.lo p.hi hlo hhi i (by omega) bq bs bp U (kq.call hU) (ks.call hU) (kp.call hU))
  have HB := Lib.hid (band_far p aS aC nS cS nC cC shore hs)
  clear hp hs hv hlo hhi
  go_enter Try.func136, Try.ntmps136
  go_wp2_with fail
  refine (HB.out _).mono ?_
  rintro e w1 ⟨rfl, hb⟩
  replace jP := jP.call hb
  replace jO := jO.call hb
  replace jB := bwS jB (Nat.le_refl _) hb
  clear hb HB
  have zP := jP.lt
  have zO := jO.lt
  go_upto_region 2 with fail
  have jS := (Blk.new w1 #[.int .i64 p.lo, .int .i64 p.hi] 23).alloc (.cells #[.int .i64 (v * v * 1000000)] 3)
  have jQ := Blk.new1 w1 (.cells #[.int .i64 p.lo, .int .i64 p.hi] 23) #[.int .i64 (v * v * 1000000)] 3
  replace jP := (jP.alloc (.cells #[.int .i64 p.lo, .int .i64 p.hi] 23)).alloc (.cells #[.int .i64 (v * v * 1000000)] 3)
  replace jO := (jO.alloc (.cells #[.int .i64 p.lo, .int .i64 p.hi] 23)).alloc (.cells #[.int .i64 (v * v * 1000000)] 3)
  have zz := jB.size
  replace jB := bwA (bwA jB (Nat.le_refl _) (.cells #[.int .i64 p.lo, .int .i64 p.hi] 23)) (Nat.le_refl _) (.cells #[.int .i64 (v * v * 1000000)] 3)
  generalize (w1.alloc (.cells #[.int .i64 p.lo, .int .i64 p.hi] 23)).alloc (.cells #[.int .i64 (v * v * 1000000)] 3) = V at jS jQ jP jO jB ⊢
  go_wp2_with fail
  refine (H1.out _ _ _ _ jQ jS jP).mono ?_
  rintro e w2 ⟨f, rfl, f1, f2, f3, hb⟩
  have G1 := Lib.hid (And.intro f1 (And.intro f2 f3))
  clear f1 f2 f3 H1
  replace jS := jS.call hb
  replace jQ := jQ.call hb
  replace jP := jP.call hb
  replace jO := jO.call hb
  replace jB := bwS jB (Nat.le_refl _) hb
  clear hb
  go_wp2_with fail
  refine (H2.out _ _ _ _ jQ jS jP).mono ?_
  rintro e w3 ⟨b, rfl, f1, f2, f3, hb⟩
  have e3 : IntKind.i64.wrap ((b : Int) - 1) = (b : Int) - 1 := IntWalk.i64_in _ (by omega)
  have G2 := Lib.hid (And.intro f1 (And.intro f2 f3))
  clear f1 f2 f3 H2 jQ jS jP
  replace jO := jO.call hb
  replace jB := bwS jB (Nat.le_refl _) hb
  clear hb
  obtain ⟨o0, o1⟩ := jO.c2
  have zQ := jO.lt
  have g0 := jO.free 0
  have g1 := jO.free 1
  have HQ := Lib.hid ((jO.set 0 (.int .i64 f)).set 1 (.int .i64 ((b : Int) - 1))).c2
  have HW := Lib.hid (show Below w.heap.size w ((w3.setCell ⟨w.heap.size + 1, 0, none⟩ (.int .i64 f)).setCell ⟨w.heap.size + 1, 1, none⟩ (.int .i64 ((b : Int) - 1))) from (jB.setCell (by simp) _).setCell (by simp) _)
  clear jO jB
  go_wp2
  obtain ⟨z0, z1⟩ := HQ.out
  obtain ⟨f1, f2, f3⟩ := G1.out
  obtain ⟨b1, b2, b3⟩ := G2.out
  exact bodyPost_ret (v := .agg #[.int .i64 f, .int .i64 ((b : Int) - 1)]) (by simp [results, Try.results136, go_sem, z0, z1]) rfl ⟨f, b, rfl, f1, b1, fun h => by simpa using f2 h, fun j h => by simpa using f3 j h, fun h => by simpa using b2 h, fun j h => by simpa using b3 j h, HW.out⟩

set_option maxHeartbeats 2000000 in
theorem calm_never (p : Pl) (hp : p.Ok) (aS aC : Option Addr) (nS cS nC cC : Nat) (d0 d1 shore v : Int) (hs : p.sh ≤ shore) (hv : 0 ≤ v ∧ v ≤ 1000) (hc : ∀ f b : Nat, f ≤ 10001 → b ≤ 10001 → (f < 10001 → v * v * 1000000 ≤ p.hi * p.gr * (f : Int)) → (∀ j, f = j + 1 → ¬ v * v * 1000000 ≤ p.hi * p.gr * ((j : Nat) : Int)) → (b < 10001 → v * v * 1000000 < p.lo * p.gr * (b : Int)) → (∀ j, b = j + 1 → ¬ v * v * 1000000 < p.lo * p.gr * ((j : Nat) : Int)) → (f : Int) ≤ d0 ∧ d1 ≤ (b : Int) - 1) (hd : d0 ≤ d1) (w : World) :
    Calls Try.prog 103 #[.agg #[.int .i64 p.s0, .int .i64 p.s1, (.slice aS nS cS), (.slice aC nC cC), .int .i64 p.ne, .int .i64 p.ed, .int .i64 p.gr, .int .i64 p.lo, .int .i64 p.hi, .int .i64 p.sh, .int .i64 p.wi], .agg #[.int .i64 d0, .int .i64 d1], .int .i64 shore, .int .i64 v] w fun e w' => e = .returned (.int .i64 2) ∧ Below w.heap.size w w' := by
  have jP := (Blk.new w #[.int .i64 p.s0, .int .i64 p.s1, (.slice aS nS cS), (.slice aC nC cC), .int .i64 p.ne, .int .i64 p.ed, .int .i64 p.gr, .int .i64 p.lo, .int .i64 p.hi, .int .i64 p.sh, .int .i64 p.wi] 26).alloc (.cells #[.int .i64 d0, .int .i64 d1] 23)
  have jD := Blk.new1 w (.cells #[.int .i64 p.s0, .int .i64 p.s1, (.slice aS nS cS), (.slice aC nC cC), .int .i64 p.ne, .int .i64 p.ed, .int .i64 p.gr, .int .i64 p.lo, .int .i64 p.hi, .int .i64 p.sh, .int .i64 p.wi] 26) #[.int .i64 d0, .int .i64 d1] 23
  have jB : Below w.heap.size w ((w.alloc (.cells #[.int .i64 p.s0, .int .i64 p.s1, (.slice aS nS cS), (.slice aC nC cC), .int .i64 p.ne, .int .i64 p.ed, .int .i64 p.gr, .int .i64 p.lo, .int .i64 p.hi, .int .i64 p.sh, .int .i64 p.wi] 26)).alloc (.cells #[.int .i64 d0, .int .i64 d1] 23)) := by (repeat (first | exact Below.refl _ _ | assumption | refine Below.drew ?_ | refine Below.drewN ?_ _ | refine blT ?_ | refine blU ?_))
  have HC := Lib.hid (critical_far p hp aS aC nS cS nC cC shore v hs hv)
  have HH := Lib.hid hc
  clear hc hp hs hv
  go_enter Try.func103, Try.ntmps103
  go_wp2_with fail
  refine (HC.out _).mono ?_
  rintro e w1 ⟨f, b, rfl, q1, q2, q3, q4, q5, q6, hb⟩
  obtain ⟨h1, h2⟩ := HH.out f b q1 q2 q3 q4 q5 q6
  clear q1 q2 q3 q4 q5 q6 HC HH
  replace jD := jD.call hb
  replace jB := bwS jB (Nat.le_refl _) hb
  clear hb jP
  have hmx : max d0 (f : Int) = d0 := by omega
  have hmn : min d1 ((b : Int) - 1) = d1 := by omega
  have hng : ¬ d1 < d0 := by omega
  obtain ⟨c0, c1⟩ := jD.c2
  have zD := jD.lt
  have zD2 : w.heap.size + 1 < w1.heap.size + 1 := by omega
  have HB := Lib.hid jB
  clear jB jD
  go_wp2
  all_goals
    go_ret
    have hBB := HB.out
    exact ⟨rfl, by (repeat (first | exact Below.refl _ _ | assumption | refine Below.drew ?_ | refine Below.drewN ?_ _ | refine blT ?_ | refine blU ?_))⟩
end Go.Proofs.Ytkkljbbgaogifaa

/-
  The reference's checks of spans, of tables and of plates (layer 3): what they return, whatever comes in.
-/
import Derived.Test.YtkkljbbgaogifaaTail
import Derived.Test.YtkkljbbgaogifaaPlC
set_option linter.unusedVariables false
set_option linter.unusedSimpArgs false
namespace Go.Proofs.Ytkkljbbgaogifaa
open Go.RowKit

def outB (n lo hi : Int) : Bool := decide (n < lo) || decide (hi < n)
theorem rout_any (n lo hi : Int) (w : World) :
    Calls Try.prog 72 #[.int .i64 n, .int .i64 lo, .int .i64 hi] w fun e w' => e = .returned (.bool (outB n lo hi)) ∧ w = w' := by
  by_cases h1 : n < lo
  · go_enter Try.func72, Try.ntmps72
    go_wp2
    go_ret
    exact ⟨by simp [outB, h1], rfl⟩
  · by_cases h2 : hi < n
    · go_enter Try.func72, Try.ntmps72
      go_wp2
      go_ret
      exact ⟨by simp [outB, h2], rfl⟩
    · have e : outB n lo hi = false := by simp [outB]; omega
      rw [e]
      go_enter Try.func72, Try.ntmps72
      go_wp2
      go_ret
      exact ⟨by simp, rfl⟩

theorem outB_eN (n lo hi : Int) : eN n lo hi = if outB n lo hi then 2 else 0 := by
  unfold eN outB
  by_cases h1 : n < lo <;> by_cases h2 : hi < n <;> simp [h1, h2]
theorem eS_out1 {lo hi a b : Int} (h : outB lo a b = true) : eS lo hi a b = 2 := by
  simp [eS, eR, outB_eN, h, orE]
theorem eS_out2 {lo hi a b : Int} (h : outB lo a b = false) (h2 : outB hi a b = true) : eS lo hi a b = 2 := by
  simp [eS, eR, outB_eN, h, h2, orE]
theorem eS_ord {lo hi a b : Int} (h : outB lo a b = false) (h2 : outB hi a b = false) (h3 : hi < lo) : eS lo hi a b = 11 := by
  have : ¬ lo ≤ hi := by omega
  simp [eS, eR, outB_eN, h, h2, orE, eO, this]
theorem eS_in {lo hi a b : Int} (h : outB lo a b = false) (h2 : outB hi a b = false) (h3 : ¬ hi < lo) : eS lo hi a b = 0 := by
  have : lo ≤ hi := by omega
  simp [eS, eR, outB_eN, h, h2, orE, eO, this]

set_option maxRecDepth 100000 in
set_option maxHeartbeats 1000000 in
theorem rspan_any (lo hi a b : Int) (w : World) :
    Calls Try.prog 84 #[.agg #[.int .i64 lo, .int .i64 hi], .int .i64 a, .int .i64 b] w fun e w' => e = .returned (.int .i64 (eS lo hi a b)) ∧ Below w.heap.size w w' := by
  have jX := Blk.new w #[.int .i64 lo, .int .i64 hi] 23
  have jB : Below w.heap.size w (w.alloc (.cells #[.int .i64 lo, .int .i64 hi] 23)) := by (repeat (first | exact Below.refl _ _ | assumption | refine Below.drew ?_ | refine Below.drewN ?_ _ | refine blT ?_ | refine blU ?_))
  obtain ⟨x0, x1⟩ := jX.c2
  cases h1 : outB lo a b with
  | true =>
    rw [eS_out1 h1]
    go_enter Try.func84, Try.ntmps84
    go_wp2_with (go_at_call 72; refine (rout_any _ _ _ _).mono ?_; rintro e w' ⟨rfl, rfl⟩)
    go_ret
    exact ⟨rfl, jB⟩
  | false =>
    cases h2 : outB hi a b with
    | true =>
      rw [eS_out2 h1 h2]
      go_enter Try.func84, Try.ntmps84
      go_wp2_with (go_at_call 72; refine (rout_any _ _ _ _).mono ?_; rintro e w' ⟨rfl, rfl⟩)
      go_ret
      exact ⟨rfl, jB⟩
    | false =>
      by_cases h3 : hi < lo
      · rw [eS_ord h1 h2 h3]
        go_enter Try.func84, Try.ntmps84
        go_wp2_with (go_at_call 72; refine (rout_any _ _ _ _).mono ?_; rintro e w' ⟨rfl, rfl⟩)
        go_ret
        exact ⟨rfl, jB⟩
      · rw [eS_in h1 h2 h3]
        go_enter Try.func84, Try.ntmps84
        go_wp2_with (go_at_call 72; refine (rout_any _ _ _ _).mono ?_; rintro e w' ⟨rfl, rfl⟩)
        go_ret
        exact ⟨rfl, jB⟩

theorem out_0 : outB 0 0 10000 = false := by decide
theorem out_mil : outB 1000000 0 1000000 = false := by decide
theorem eN_out (n lo hi : Int) : eN n lo hi = if outB n lo hi then 2 else 0 := outB_eN n lo hi
theorem eTs_some {n : Nat} {F P : Nat → Int} (h : n ≤ 20) (h1 : 1 ≤ n) : eTab n F P = firstNZ (tabErr F P) 0 n := by
  unfold eTab eTs eSm
  rw [if_neg (by omega), if_neg (by omega)]
  rfl
theorem first_at (x : Nat → Int) (n k : Nat) (hk : k < n) (h : ∀ j, j < k → x j = 0) (hx : x k ≠ 0) : firstNZ x 0 n = x k := by
  have : ∀ m, m ≤ k → firstNZ x 0 n = firstNZ x m (n - m) := by
    intro m
    induction m with
    | zero => intro _; rfl
    | succ m ih => intro hm; rw [ih (by omega), firstNZ_step0 x n m (by omega) (h m (by omega))]
  rw [this k (Nat.le_refl _), firstNZ_stepN x n k hk hx]
theorem first_none (x : Nat → Int) (n : Nat) (h : ∀ j, j < n → x j = 0) : firstNZ x 0 n = 0 := by
  have : ∀ m, m ≤ n → firstNZ x 0 n = firstNZ x m (n - m) := by
    intro m
    induction m with
    | zero => intro _; rfl
    | succ m ih => intro hm; rw [ih (by omega), firstNZ_step0 x n m (by omega) (h m (by omega))]
  rw [this n (Nat.le_refl _), Nat.sub_self]
  rfl

set_option maxRecDepth 100000 in
set_option maxHeartbeats 4000000 in
theorem rtable_any (v : Value) (n : Nat) (F P : Nat → Int) (w : World) (h : PairsAt w v n F P) :
    Calls Try.prog 85 #[v] w fun e w' => e = .returned (.int .i64 (eTab n F P)) ∧ Below w.heap.size w w' := by
  obtain ⟨a, cap, rfl, hcap, hm, h3⟩ := h
  have H3 := Lib.hid h3
  clear h3
  by_cases h0 : n = 0
  · subst h0
    rw [show eTab 0 F P = 6 by simp [eTab, eSm, orE]]
    go_enter Try.func85, Try.ntmps85
    go_wp2
    go_ret
    exact ⟨rfl, Below.refl _ _⟩
  by_cases h20 : 20 < n
  · rw [show eTab n F P = 8 by unfold eTab eTs eSm; rw [if_neg (by omega), if_pos h20]; rfl]
    have h21 : (20 : Int) < (n : Int) := by omega
    have h00 : ¬ (n : Int) = 0 := by omega
    clear h0
    go_enter Try.func85, Try.ntmps85
    go_wp2
    go_ret
    exact ⟨rfl, Below.refl _ _⟩
  rw [eTs_some (by omega) (by omega)]
  have HN0 : Hid (∀ k, k < n → (∀ j, j < k → tabErr F P j = 0) → tabErr F P k ≠ 0 → firstNZ (tabErr F P) 0 n = tabErr F P k) := fun k hk h hx => first_at _ n k hk h hx
  have HZ0 : Hid ((∀ j, j < n → tabErr F P j = 0) → firstNZ (tabErr F P) 0 n = 0) := fun h => first_none _ n h
  generalize firstNZ (tabErr F P) 0 n = r at HN0 HZ0 ⊢
  have h21 : ¬ (20 : Int) < (n : Int) := by omega
  have h00 : ¬ (n : Int) = 0 := by omega
  clear h0
  go_enter Try.func85, Try.ntmps85
  go_wp2_with fail
  go_loopw [3] (fun i wr => ∃ k : Nat, k ≤ n ∧ i = .int .i64 k ∧ (∀ j, j < k → tabErr F P j = 0) ∧ Below w.heap.size w wr) (fun i _ => n - (intOf i).toNat)
  case atStart => exact ⟨0, Nat.zero_le _, rfl, fun j hj => by omega, Below.refl _ _⟩
  case round =>
    obtain ⟨k, hk, rfl, hj, hB⟩ := hrel
    have HJ := Lib.hid hj
    clear hj
    by_cases hlt2 : k < n
    · obtain ⟨b, o, rfl, hc⟩ := H3.out (by omega)
      have HN := Lib.hid (HN0.out k hlt2 HJ.out)
      by_cases hk0 : k = 0
      · subst hk0
        have hc0 := hc 0 hlt2
        simp only [Nat.zero_mul, Nat.add_zero] at hc0
        clear hc H3 HN0 HZ0
        have HE : Hid (tabErr F P 0 = eT0 (F 0) (P 0)) := rfl
        generalize F 0 = f at hc0 HE
        generalize P 0 = p at hc0 HE
        have HC := Lib.hid hc0
        clear hc0
        have c0 := cell_later hB HC.out.1
        have c1 := cell_later hB HC.out.2
        have z0 := World.block_lt_of_cell? _ _ c0
        cases h1 : outB f 0 10000 with
        | true =>
          have hr := HN.out (by rw [HE.out]; simp [eT0, eN_out, eO, eF, orE, out_0, out_mil, h1])
          rw [HE.out] at hr
          have hr2 : r = 2 := by rw [hr]; simp [eT0, eN_out, eO, eF, orE, out_0, out_mil, h1]
          subst hr2
          go_wp2_with (go_at_call 72; refine (rout_any _ _ _ _).mono ?_; rintro e w' ⟨rfl, rfl⟩)
          go_ret
          exact ⟨rfl, hB⟩
        | false =>
          go_upto_region 10 with (go_at_call 72; refine (rout_any _ _ _ _).mono ?_; rintro e w' ⟨rfl, rfl⟩)
          by_cases h2 : f = 0
          · have b2 : (f == 0) = true := by simpa using h2
            have b3 : (f != 0) = false := by simpa using h2
            clear c0 c1 z0
            refine wp_region_held_drew (S := (fun v => Below w.heap.size w v)) (by kernel_rfl) ?_ (fun hH => ?_)
            · (try dsimp only); (exact hB.drew)
            refine tkY 0 (some 22) ?_ ?_ ?_
            rotate_left
            · intro w _; go_simp; (try with_reducible rfl)
            (try simp only [cq])
            refine tkY 1 (some 23) ?_ ?_ ?_
            rotate_left
            · intro w _; go_simp; (try with_reducible rfl)
            (try simp only [cq])
            refine tkY 2 (some 24) ?_ ?_ ?_
            rotate_left
            · intro w _; go_simp; (try with_reducible rfl)
            (try simp only [cq])
            refine tkY 3 (some 25) ?_ ?_ ?_
            rotate_left
            · intro w _; go_simp; (try with_reducible rfl)
            (try simp only [cq])
            refine tkY 4 (some 26) ?_ ?_ ?_
            rotate_left
            · intro w _; go_simp; (try with_reducible rfl)
            (try simp only [cq])
            refine tkY 5 (some 27) ?_ ?_ ?_
            rotate_left
            · intro w hS0; (try dsimp only at hS0); have g0 := cell_later hS0 HC.out.1; have g1 := cell_later hS0 HC.out.2; have y0 := World.block_lt_of_cell? _ _ g0;go_simp; (try with_reducible rfl)
            (try simp only [cq])
            refine tkY 6 (some 28) ?_ ?_ ?_
            rotate_left
            · intro w hS0; (try dsimp only at hS0); have g0 := cell_later hS0 HC.out.1; have g1 := cell_later hS0 HC.out.2; have y0 := World.block_lt_of_cell? _ _ g0;go_simp; (try with_reducible rfl)
            (try simp only [cq])
            refine tkY 7 (some 29) ?_ ?_ ?_
            rotate_left
            · intro w hS0; (try dsimp only at hS0); have g0 := cell_later hS0 HC.out.1; have g1 := cell_later hS0 HC.out.2; have y0 := World.block_lt_of_cell? _ _ g0;go_simp; (try with_reducible rfl)
            (try simp only [cq])
            refine tkY 8 (some 30) ?_ ?_ ?_
            rotate_left
            · intro w _; go_simp; (try with_reducible rfl)
            (try simp only [cq])
            refine tkY 9 (some 31) ?_ ?_ ?_
            rotate_left
            · intro w _; go_simp; (try with_reducible rfl)
            (try simp only [cq])
            refine tkY 10 (some 32) ?_ ?_ ?_
            rotate_left
            · intro w _; go_simp; (try with_reducible rfl)
            (try simp only [cq])
            refine tkY 11 (some 33) ?_ ?_ ?_
            rotate_left
            · intro w _; go_simp; (try with_reducible rfl)
            (try simp only [cq])
            refine tkY 12 (some 34) ?_ ?_ ?_
            rotate_left
            · intro w _; go_simp; (try with_reducible rfl)
            (try simp only [cq])
            refine tkY 13 (some 35) ?_ ?_ ?_
            rotate_left
            · intro w _; go_simp; (try with_reducible rfl)
            (try simp only [cq])
            refine tkN 14 (some 36) ?_
            (try simp only [cq])
            refine tkN 15 (some 37) ?_
            (try simp only [cq])
            refine tkN 16 (some 38) ?_
            (try simp only [cq])
            refine tkN 17 (some 39) ?_
            (try simp only [cq])
            refine tkN 18 (some 40) ?_
            (try simp only [cq])
            refine tkN 19 (some 41) ?_
            (try simp only [cq])
            refine tkN 20 (some 42) ?_
            (try simp only [cq])
            refine tkN 21 (some 43) ?_
            (try simp only [cq])
            refine tkN 22 (some 44) ?_
            (try simp only [cq])
            refine tkN 23 (some 45) ?_
            (try simp only [cq])
            refine tkN 24 (some 46) ?_
            (try simp only [cq])
            refine tkN 25 (some 47) ?_
            (try simp only [cq])
            refine tkY 26 (some 48) ?_ ?_ ?_
            rotate_left
            · intro w _; go_simp; (try with_reducible rfl)
            (try simp only [cq])
            refine tkY 27 (some 49) ?_ ?_ ?_
            rotate_left
            · intro w _; go_simp; (try with_reducible rfl)
            (try simp only [cq])
            refine wpAnyH_done (by kernel_rfl) ?_ _
            (try dsimp only [Act.put])
            (try simp only [cq])
            clear hB
            have hB := hH
            clear hH
            have c0 := cell_later hB HC.out.1
            have c1 := cell_later hB HC.out.2
            have z0 := World.block_lt_of_cell? _ _ c0
            cases h3 : outB p 0 1000000 with
            | true =>
              have hr := HN.out (by rw [HE.out]; simp [eT0, eN_out, eO, eF, orE, out_0, out_mil, h1, h2, h3])
              rw [HE.out] at hr
              have hr2 : r = 2 := by rw [hr]; simp [eT0, eN_out, eO, eF, orE, out_0, out_mil, h1, h2, h3]
              subst hr2
              go_wp2_with (go_at_call 72; refine (rout_any _ _ _ _).mono ?_; rintro e w' ⟨rfl, rfl⟩)
              go_ret
              exact ⟨rfl, hB⟩
            | false =>
              by_cases h4 : p = 1000000
              · have b4 : (p == 1000000) = true := by simpa using h4
                have b5 : (p != 1000000) = false := by simpa using h4
                have hz : tabErr F P 0 = 0 := by rw [HE.out]; simp [eT0, eN_out, eO, eF, orE, out_0, out_mil, h1, h2, h3, h4]
                go_upto_region 16 with (go_at_call 72; refine (rout_any _ _ _ _).mono ?_; rintro e w' ⟨rfl, rfl⟩)
                clear c0 c1 z0
                refine wp_region_held_drew (S := (fun v => Below w.heap.size w v)) (by kernel_rfl) ?_ (fun hH => ?_)
                · (try dsimp only); (exact hB.drew)
                refine tkY 0 (some 66) ?_ ?_ ?_
                rotate_left
                · intro w _; go_simp; (try with_reducible rfl)
                (try simp only [cq])
                refine tkY 1 (some 67) ?_ ?_ ?_
                rotate_left
                · intro w _; go_simp; (try with_reducible rfl)
                (try simp only [cq])
                refine tkY 2 (some 68) ?_ ?_ ?_
                rotate_left
                · intro w _; go_simp; (try with_reducible rfl)
                (try simp only [cq])
                refine tkN 3 (some 69) ?_
                (try simp only [cq])
                refine tkN 4 (some 70) ?_
                (try simp only [cq])
                refine tkN 5 (some 71) ?_
                (try simp only [cq])
                refine tkN 6 (some 72) ?_
                (try simp only [cq])
                refine tkN 7 (some 73) ?_
                (try simp only [cq])
                refine tkN 8 (some 74) ?_
                (try simp only [cq])
                refine tkN 9 (some 75) ?_
                (try simp only [cq])
                refine tkN 10 (some 76) ?_
                (try simp only [cq])
                refine tkN 11 (some 77) ?_
                (try simp only [cq])
                refine tkN 12 (some 78) ?_
                (try simp only [cq])
                refine tkN 13 (some 79) ?_
                (try simp only [cq])
                refine tkN 14 (some 80) ?_
                (try simp only [cq])
                refine tkY 15 (some 81) ?_ ?_ ?_
                rotate_left
                · intro w _; go_simp; (try with_reducible rfl)
                (try simp only [cq])
                refine wpAnyH_done (by kernel_rfl) ?_ _
                (try dsimp only [Act.put])
                (try simp only [cq])
                clear hB
                have hB := hH
                clear hH
                go_wp2
                go_roundw
                case rel => exact ⟨0 + 1, by omega, by go_num, fun j hj => by
                    by_cases e : j = 0
                    · subst e; exact hz
                    · omega, hB⟩
                case measure => simp [intOf]; omega
              · have b4 : (p == 1000000) = false := by simpa using h4
                have b5 : (p != 1000000) = true := by simpa using h4
                have hr := HN.out (by rw [HE.out]; simp [eT0, eN_out, eO, eF, orE, out_0, out_mil, h1, h2, h3, h4])
                rw [HE.out] at hr
                have hr2 : r = 3 := by rw [hr]; simp [eT0, eN_out, eO, eF, orE, out_0, out_mil, h1, h2, h3, h4]
                subst hr2
                go_wp2_with (go_at_call 72; refine (rout_any _ _ _ _).mono ?_; rintro e w' ⟨rfl, rfl⟩)
                go_ret
                exact ⟨rfl, hB⟩
          · have b2 : (f == 0) = false := by simpa using h2
            have b3 : (f != 0) = true := by simpa using h2
            have hr := HN.out (by rw [HE.out]; simp [eT0, eN_out, eO, eF, orE, out_0, out_mil, h1, h2])
            rw [HE.out] at hr
            have hr2 : r = 11 := by rw [hr]; simp [eT0, eN_out, eO, eF, orE, out_0, out_mil, h1, h2]
            subst hr2
            clear c0 c1 z0
            refine wp_region_held_drew (S := (fun v => Below w.heap.size w v)) (by kernel_rfl) ?_ (fun hH => ?_)
            · (try dsimp only); (exact hB.drew)
            refine tkY 0 (some 22) ?_ ?_ ?_
            rotate_left
            · intro w _; go_simp; (try with_reducible rfl)
            (try simp only [cq])
            refine tkY 1 (some 23) ?_ ?_ ?_
            rotate_left
            · intro w _; go_simp; (try with_reducible rfl)
            (try simp only [cq])
            refine tkY 2 (some 24) ?_ ?_ ?_
            rotate_left
            · intro w _; go_simp; (try with_reducible rfl)
            (try simp only [cq])
            refine tkY 3 (some 25) ?_ ?_ ?_
            rotate_left
            · intro w _; go_simp; (try with_reducible rfl)
            (try simp only [cq])
            refine tkY 4 (some 26) ?_ ?_ ?_
            rotate_left
            · intro w _; go_simp; (try with_reducible rfl)
            (try simp only [cq])
            refine tkY 5 (some 27) ?_ ?_ ?_
            rotate_left
            · intro w hS0; (try dsimp only at hS0); have g0 := cell_later hS0 HC.out.1; have g1 := cell_later hS0 HC.out.2; have y0 := World.block_lt_of_cell? _ _ g0;go_simp; (try with_reducible rfl)
            (try simp only [cq])
            refine tkY 6 (some 28) ?_ ?_ ?_
            rotate_left
            · intro w hS0; (try dsimp only at hS0); have g0 := cell_later hS0 HC.out.1; have g1 := cell_later hS0 HC.out.2; have y0 := World.block_lt_of_cell? _ _ g0;go_simp; (try with_reducible rfl)
            (try simp only [cq])
            refine tkY 7 (some 29) ?_ ?_ ?_
            rotate_left
            · intro w hS0; (try dsimp only at hS0); have g0 := cell_later hS0 HC.out.1; have g1 := cell_later hS0 HC.out.2; have y0 := World.block_lt_of_cell? _ _ g0;go_simp; (try with_reducible rfl)
            (try simp only [cq])
            refine tkY 8 (some 30) ?_ ?_ ?_
            rotate_left
            · intro w _; go_simp; (try with_reducible rfl)
            (try simp only [cq])
            refine tkY 9 (some 31) ?_ ?_ ?_
            rotate_left
            · intro w _; go_simp; (try with_reducible rfl)
            (try simp only [cq])
            refine tkY 10 (some 32) ?_ ?_ ?_
            rotate_left
            · intro w _; go_simp; (try with_reducible rfl)
            (try simp only [cq])
            refine tkN 11 (some 33) ?_
            (try simp only [cq])
            refine tkN 12 (some 34) ?_
            (try simp only [cq])
            refine tkN 13 (some 35) ?_
            (try simp only [cq])
            refine tkN 14 (some 36) ?_
            (try simp only [cq])
            refine tkN 15 (some 37) ?_
            (try simp only [cq])
            refine tkN 16 (some 38) ?_
            (try simp only [cq])
            refine tkN 17 (some 39) ?_
            (try simp only [cq])
            refine tkN 18 (some 40) ?_
            (try simp only [cq])
            refine tkN 19 (some 41) ?_
            (try simp only [cq])
            refine tkN 20 (some 42) ?_
            (try simp only [cq])
            refine tkN 21 (some 43) ?_
            (try simp only [cq])
            refine tkN 22 (some 44) ?_
            (try simp only [cq])
            refine tkN 23 (some 45) ?_
            (try simp only [cq])
            refine tkN 24 (some 46) ?_
            (try simp only [cq])
            refine tkN 25 (some 47) ?_
            (try simp only [cq])
            refine tkN 26 (some 48) ?_
            (try simp only [cq])
            refine tkY 27 (some 49) ?_ ?_ ?_
            rotate_left
            · intro w _; go_simp; (try with_reducible rfl)
            (try simp only [cq])
            refine wpAnyH_done (by kernel_rfl) ?_ _
            (try dsimp only [Act.put])
            (try simp only [cq])
            clear hB
            have hB := hH
            clear hH
            go_wp2
            go_ret
            exact ⟨rfl, hB⟩
      · obtain ⟨m, hm⟩ : ∃ m, k - 1 = m := ⟨_, rfl⟩
        have hc0 := hc k hlt2
        have hc1 := hc m (by omega)
        have ek : IntKind.i64.wrap ((k : Int) - 1) = (m : Int) := by rw [show (k : Int) - 1 = (m : Int) by omega]; exact IntWalk.i64_in _ (by omega)
        have hk1 : ¬ (k : Int) = 0 := by omega
        have hk2 : 0 < (k : Int) := by omega
        have hkb : ((k : Int) == 0) = false := by simpa using hk0
        have hkn : 0 < k := by omega
        have hk3 : (m : Int) < (n : Int) := by omega
        have HE : Hid (tabErr F P k = eT1 (F k) (P k) (F m) (P m)) := by
          show tabErr F P k = _
          unfold tabErr
          rw [if_neg (by omega), hm]
        clear hc H3 HN0 HZ0 hk0 hm
        generalize F k = f at hc0 HE
        generalize P k = p at hc0 HE
        generalize F m = g at hc1 HE
        generalize P m = q at hc1 HE
        have HC := Lib.hid (And.intro hc0.1 (And.intro hc0.2 hc1))
        clear hc0 hc1
        have c0 := cell_later hB HC.out.1
        have c1 := cell_later hB HC.out.2.1
        have c2 := cell_later hB HC.out.2.2.1
        have c3 := cell_later hB HC.out.2.2.2
        have z0 := World.block_lt_of_cell? _ _ c0
        cases h1 : outB f 0 10000 with
        | true =>
          have hr := HN.out (by rw [HE.out]; simp [eT1, eN_out, eO, orE, h1])
          rw [HE.out] at hr
          have hr2 : r = 2 := by rw [hr]; simp [eT1, eN_out, eO, orE, h1]
          subst hr2
          go_wp2_with (go_at_call 72; refine (rout_any _ _ _ _).mono ?_; rintro e w' ⟨rfl, rfl⟩)
          go_ret
          exact ⟨rfl, hB⟩
        | false =>
          go_upto_region 10 with (go_at_call 72; refine (rout_any _ _ _ _).mono ?_; rintro e w' ⟨rfl, rfl⟩)
          by_cases h2 : g < f
          · have b2 : ¬ f ≤ g := by omega
            skip
            clear c0 c1 c2 c3 z0
            refine wp_region_held_drew (S := (fun v => Below w.heap.size w v)) (by kernel_rfl) ?_ (fun hH => ?_)
            · (try dsimp only); (exact hB.drew)
            refine tkY 0 (some 22) ?_ ?_ ?_
            rotate_left
            · intro w _; go_simp; (try with_reducible rfl)
            (try simp only [cq])
            refine tkY 1 (some 23) ?_ ?_ ?_
            rotate_left
            · intro w _; go_simp; (try with_reducible rfl)
            (try simp only [cq])
            refine tkY 2 (some 24) ?_ ?_ ?_
            rotate_left
            · intro w _; go_simp; (try with_reducible rfl)
            (try simp only [cq])
            refine tkN 3 (some 25) ?_
            (try simp only [cq])
            refine tkN 4 (some 26) ?_
            (try simp only [cq])
            refine tkN 5 (some 27) ?_
            (try simp only [cq])
            refine tkN 6 (some 28) ?_
            (try simp only [cq])
            refine tkN 7 (some 29) ?_
            (try simp only [cq])
            refine tkN 8 (some 30) ?_
            (try simp only [cq])
            refine tkY 9 (some 31) ?_ ?_ ?_
            rotate_left
            · intro w _; go_simp; (try with_reducible rfl)
            (try simp only [cq])
            refine tkY 10 (some 32) ?_ ?_ ?_
            rotate_left
            · intro w _; go_simp; (try with_reducible rfl)
            (try simp only [cq])
            refine tkY 11 (some 33) ?_ ?_ ?_
            rotate_left
            · intro w _; go_simp; (try with_reducible rfl)
            (try simp only [cq])
            refine tkY 12 (some 34) ?_ ?_ ?_
            rotate_left
            · intro w _; go_simp; (try with_reducible rfl)
            (try simp only [cq])
            refine tkY 13 (some 35) ?_ ?_ ?_
            rotate_left
            · intro w _; go_simp; (try with_reducible rfl)
            (try simp only [cq])
            refine tkY 14 (some 36) ?_ ?_ ?_
            rotate_left
            · intro w _; go_simp; (try with_reducible rfl)
            (try simp only [cq])
            refine tkY 15 (some 37) ?_ ?_ ?_
            rotate_left
            · intro w _; go_simp; (try with_reducible rfl)
            (try simp only [cq])
            refine tkY 16 (some 38) ?_ ?_ ?_
            rotate_left
            · intro w hS0; (try dsimp only at hS0); have g0 := cell_later hS0 HC.out.1; have g1 := cell_later hS0 HC.out.2.1; have g2 := cell_later hS0 HC.out.2.2.1; have g3 := cell_later hS0 HC.out.2.2.2; have y0 := World.block_lt_of_cell? _ _ g0;go_simp; (try with_reducible rfl)
            (try simp only [cq])
            refine tkY 17 (some 39) ?_ ?_ ?_
            rotate_left
            · intro w hS0; (try dsimp only at hS0); have g0 := cell_later hS0 HC.out.1; have g1 := cell_later hS0 HC.out.2.1; have g2 := cell_later hS0 HC.out.2.2.1; have g3 := cell_later hS0 HC.out.2.2.2; have y0 := World.block_lt_of_cell? _ _ g0;go_simp; (try with_reducible rfl)
            (try simp only [cq])
            refine tkY 18 (some 40) ?_ ?_ ?_
            rotate_left
            · intro w hS0; (try dsimp only at hS0); have g0 := cell_later hS0 HC.out.1; have g1 := cell_later hS0 HC.out.2.1; have g2 := cell_later hS0 HC.out.2.2.1; have g3 := cell_later hS0 HC.out.2.2.2; have y0 := World.block_lt_of_cell? _ _ g0;go_simp; (try with_reducible rfl)
            (try simp only [cq])
            refine tkY 19 (some 41) ?_ ?_ ?_
            rotate_left
            · intro w _; go_simp; (try with_reducible rfl)
            (try simp only [cq])
            refine tkY 20 (some 42) ?_ ?_ ?_
            rotate_left
            · intro w _; go_simp; (try with_reducible rfl)
            (try simp only [cq])
            refine tkY 21 (some 43) ?_ ?_ ?_
            rotate_left
            · intro w _; go_simp; (try with_reducible rfl)
            (try simp only [cq])
            refine tkY 22 (some 44) ?_ ?_ ?_
            rotate_left
            · intro w hS0; (try dsimp only at hS0); have g0 := cell_later hS0 HC.out.1; have g1 := cell_later hS0 HC.out.2.1; have g2 := cell_later hS0 HC.out.2.2.1; have g3 := cell_later hS0 HC.out.2.2.2; have y0 := World.block_lt_of_cell? _ _ g0;go_simp; (try with_reducible rfl)
            (try simp only [cq])
            refine tkY 23 (some 45) ?_ ?_ ?_
            rotate_left
            · intro w hS0; (try dsimp only at hS0); have g0 := cell_later hS0 HC.out.1; have g1 := cell_later hS0 HC.out.2.1; have g2 := cell_later hS0 HC.out.2.2.1; have g3 := cell_later hS0 HC.out.2.2.2; have y0 := World.block_lt_of_cell? _ _ g0;go_simp; (try with_reducible rfl)
            (try simp only [cq])
            refine tkY 24 (some 46) ?_ ?_ ?_
            rotate_left
            · intro w hS0; (try dsimp only at hS0); have g0 := cell_later hS0 HC.out.1; have g1 := cell_later hS0 HC.out.2.1; have g2 := cell_later hS0 HC.out.2.2.1; have g3 := cell_later hS0 HC.out.2.2.2; have y0 := World.block_lt_of_cell? _ _ g0;go_simp; (try with_reducible rfl)
            (try simp only [cq])
            refine tkY 25 (some 47) ?_ ?_ ?_
            rotate_left
            · intro w _; go_simp; (try with_reducible rfl)
            (try simp only [cq])
            refine tkY 26 (some 48) ?_ ?_ ?_
            rotate_left
            · intro w _; go_simp; (try with_reducible rfl)
            (try simp only [cq])
            refine tkY 27 (some 49) ?_ ?_ ?_
            rotate_left
            · intro w _; go_simp; (try with_reducible rfl)
            (try simp only [cq])
            refine wpAnyH_done (by kernel_rfl) ?_ _
            (try dsimp only [Act.put])
            (try simp only [cq])
            clear hB
            have hB := hH
            clear hH
            have c0 := cell_later hB HC.out.1
            have c1 := cell_later hB HC.out.2.1
            have c2 := cell_later hB HC.out.2.2.1
            have c3 := cell_later hB HC.out.2.2.2
            have z0 := World.block_lt_of_cell? _ _ c0
            cases h3 : outB p 0 1000000 with
            | true =>
              have hr := HN.out (by rw [HE.out]; simp [eT1, eN_out, eO, orE, h1, h2, h3])
              rw [HE.out] at hr
              have hr2 : r = 2 := by rw [hr]; simp [eT1, eN_out, eO, orE, h1, h2, h3]
              subst hr2
              go_wp2_with (go_at_call 72; refine (rout_any _ _ _ _).mono ?_; rintro e w' ⟨rfl, rfl⟩)
              go_ret
              exact ⟨rfl, hB⟩
            | false =>
              by_cases h4 : p ≤ q
              · have b4 : ¬ q < p := by omega
                skip
                have hz : tabErr F P k = 0 := by rw [HE.out]; simp [eT1, eN_out, eO, orE, h1, h2, h3, h4]
                go_upto_region 16 with (go_at_call 72; refine (rout_any _ _ _ _).mono ?_; rintro e w' ⟨rfl, rfl⟩)
                clear c0 c1 c2 c3 z0
                refine wp_region_held_drew (S := (fun v => Below w.heap.size w v)) (by kernel_rfl) ?_ (fun hH => ?_)
                · (try dsimp only); (exact hB.drew)
                refine tkY 0 (some 66) ?_ ?_ ?_
                rotate_left
                · intro w _; go_simp; (try with_reducible rfl)
                (try simp only [cq])
                refine tkY 1 (some 67) ?_ ?_ ?_
                rotate_left
                · intro w _; go_simp; (try with_reducible rfl)
                (try simp only [cq])
                refine tkY 2 (some 68) ?_ ?_ ?_
                rotate_left
                · intro w _; go_simp; (try with_reducible rfl)
                (try simp only [cq])
                refine tkY 3 (some 69) ?_ ?_ ?_
                rotate_left
                · intro w _; go_simp; (try with_reducible rfl)
                (try simp only [cq])
                refine tkY 4 (some 70) ?_ ?_ ?_
                rotate_left
                · intro w _; go_simp; (try with_reducible rfl)
                (try simp only [cq])
                refine tkY 5 (some 71) ?_ ?_ ?_
                rotate_left
                · intro w hS0; (try dsimp only at hS0); have g0 := cell_later hS0 HC.out.1; have g1 := cell_later hS0 HC.out.2.1; have g2 := cell_later hS0 HC.out.2.2.1; have g3 := cell_later hS0 HC.out.2.2.2; have y0 := World.block_lt_of_cell? _ _ g0;go_simp; (try with_reducible rfl)
                (try simp only [cq])
                refine tkY 6 (some 72) ?_ ?_ ?_
                rotate_left
                · intro w hS0; (try dsimp only at hS0); have g0 := cell_later hS0 HC.out.1; have g1 := cell_later hS0 HC.out.2.1; have g2 := cell_later hS0 HC.out.2.2.1; have g3 := cell_later hS0 HC.out.2.2.2; have y0 := World.block_lt_of_cell? _ _ g0;go_simp; (try with_reducible rfl)
                (try simp only [cq])
                refine tkY 7 (some 73) ?_ ?_ ?_
                rotate_left
                · intro w hS0; (try dsimp only at hS0); have g0 := cell_later hS0 HC.out.1; have g1 := cell_later hS0 HC.out.2.1; have g2 := cell_later hS0 HC.out.2.2.1; have g3 := cell_later hS0 HC.out.2.2.2; have y0 := World.block_lt_of_cell? _ _ g0;go_simp; (try with_reducible rfl)
                (try simp only [cq])
                refine tkY 8 (some 74) ?_ ?_ ?_
                rotate_left
                · intro w _; go_simp; (try with_reducible rfl)
                (try simp only [cq])
                refine tkY 9 (some 75) ?_ ?_ ?_
                rotate_left
                · intro w _; go_simp; (try with_reducible rfl)
                (try simp only [cq])
                refine tkY 10 (some 76) ?_ ?_ ?_
                rotate_left
                · intro w _; go_simp; (try with_reducible rfl)
                (try simp only [cq])
                refine tkY 11 (some 77) ?_ ?_ ?_
                rotate_left
                · intro w hS0; (try dsimp only at hS0); have g0 := cell_later hS0 HC.out.1; have g1 := cell_later hS0 HC.out.2.1; have g2 := cell_later hS0 HC.out.2.2.1; have g3 := cell_later hS0 HC.out.2.2.2; have y0 := World.block_lt_of_cell? _ _ g0;go_simp; (try with_reducible rfl)
                (try simp only [cq])
                refine tkY 12 (some 78) ?_ ?_ ?_
                rotate_left
                · intro w hS0; (try dsimp only at hS0); have g0 := cell_later hS0 HC.out.1; have g1 := cell_later hS0 HC.out.2.1; have g2 := cell_later hS0 HC.out.2.2.1; have g3 := cell_later hS0 HC.out.2.2.2; have y0 := World.block_lt_of_cell? _ _ g0;go_simp; (try with_reducible rfl)
                (try simp only [cq])
                refine tkY 13 (some 79) ?_ ?_ ?_
                rotate_left
                · intro w hS0; (try dsimp only at hS0); have g0 := cell_later hS0 HC.out.1; have g1 := cell_later hS0 HC.out.2.1; have g2 := cell_later hS0 HC.out.2.2.1; have g3 := cell_later hS0 HC.out.2.2.2; have y0 := World.block_lt_of_cell? _ _ g0;go_simp; (try with_reducible rfl)
                (try simp only [cq])
                refine tkY 14 (some 80) ?_ ?_ ?_
                rotate_left
                · intro w _; go_simp; (try with_reducible rfl)
                (try simp only [cq])
                refine tkY 15 (some 81) ?_ ?_ ?_
                rotate_left
                · intro w _; go_simp; (try with_reducible rfl)
                (try simp only [cq])
                refine wpAnyH_done (by kernel_rfl) ?_ _
                (try dsimp only [Act.put])
                (try simp only [cq])
                clear hB
                have hB := hH
                clear hH
                go_wp2
                go_roundw
                case rel => exact ⟨k + 1, by omega, by go_num, fun j hj => by
                    by_cases e : j = k
                    · subst e; exact hz
                    · exact HJ.out j (by omega), hB⟩
                case measure => simp [intOf]; omega
              · have b4 : q < p := by omega
                skip
                have hr := HN.out (by rw [HE.out]; simp [eT1, eN_out, eO, orE, h1, h2, h3, h4])
                rw [HE.out] at hr
                have hr2 : r = 11 := by rw [hr]; simp [eT1, eN_out, eO, orE, h1, h2, h3, h4]
                subst hr2
                go_upto_region 16 with (go_at_call 72; refine (rout_any _ _ _ _).mono ?_; rintro e w' ⟨rfl, rfl⟩)
                clear c0 c1 c2 c3 z0
                refine wp_region_held_drew (S := (fun v => Below w.heap.size w v)) (by kernel_rfl) ?_ (fun hH => ?_)
                · (try dsimp only); (exact hB.drew)
                refine tkY 0 (some 66) ?_ ?_ ?_
                rotate_left
                · intro w _; go_simp; (try with_reducible rfl)
                (try simp only [cq])
                refine tkY 1 (some 67) ?_ ?_ ?_
                rotate_left
                · intro w _; go_simp; (try with_reducible rfl)
                (try simp only [cq])
                refine tkY 2 (some 68) ?_ ?_ ?_
                rotate_left
                · intro w _; go_simp; (try with_reducible rfl)
                (try simp only [cq])
                refine tkY 3 (some 69) ?_ ?_ ?_
                rotate_left
                · intro w _; go_simp; (try with_reducible rfl)
                (try simp only [cq])
                refine tkY 4 (some 70) ?_ ?_ ?_
                rotate_left
                · intro w _; go_simp; (try with_reducible rfl)
                (try simp only [cq])
                refine tkY 5 (some 71) ?_ ?_ ?_
                rotate_left
                · intro w hS0; (try dsimp only at hS0); have g0 := cell_later hS0 HC.out.1; have g1 := cell_later hS0 HC.out.2.1; have g2 := cell_later hS0 HC.out.2.2.1; have g3 := cell_later hS0 HC.out.2.2.2; have y0 := World.block_lt_of_cell? _ _ g0;go_simp; (try with_reducible rfl)
                (try simp only [cq])
                refine tkY 6 (some 72) ?_ ?_ ?_
                rotate_left
                · intro w hS0; (try dsimp only at hS0); have g0 := cell_later hS0 HC.out.1; have g1 := cell_later hS0 HC.out.2.1; have g2 := cell_later hS0 HC.out.2.2.1; have g3 := cell_later hS0 HC.out.2.2.2; have y0 := World.block_lt_of_cell? _ _ g0;go_simp; (try with_reducible rfl)
                (try simp only [cq])
                refine tkY 7 (some 73) ?_ ?_ ?_
                rotate_left
                · intro w hS0; (try dsimp only at hS0); have g0 := cell_later hS0 HC.out.1; have g1 := cell_later hS0 HC.out.2.1; have g2 := cell_later hS0 HC.out.2.2.1; have g3 := cell_later hS0 HC.out.2.2.2; have y0 := World.block_lt_of_cell? _ _ g0;go_simp; (try with_reducible rfl)
                (try simp only [cq])
                refine tkY 8 (some 74) ?_ ?_ ?_
                rotate_left
                · intro w _; go_simp; (try with_reducible rfl)
                (try simp only [cq])
                refine tkY 9 (some 75) ?_ ?_ ?_
                rotate_left
                · intro w _; go_simp; (try with_reducible rfl)
                (try simp only [cq])
                refine tkY 10 (some 76) ?_ ?_ ?_
                rotate_left
                · intro w _; go_simp; (try with_reducible rfl)
                (try simp only [cq])
                refine tkY 11 (some 77) ?_ ?_ ?_
                rotate_left
                · intro w hS0; (try dsimp only at hS0); have g0 := cell_later hS0 HC.out.1; have g1 := cell_later hS0 HC.out.2.1; have g2 := cell_later hS0 HC.out.2.2.1; have g3 := cell_later hS0 HC.out.2.2.2; have y0 := World.block_lt_of_cell? _ _ g0;go_simp; (try with_reducible rfl)
                (try simp only [cq])
                refine tkY 12 (some 78) ?_ ?_ ?_
                rotate_left
                · intro w hS0; (try dsimp only at hS0); have g0 := cell_later hS0 HC.out.1; have g1 := cell_later hS0 HC.out.2.1; have g2 := cell_later hS0 HC.out.2.2.1; have g3 := cell_later hS0 HC.out.2.2.2; have y0 := World.block_lt_of_cell? _ _ g0;go_simp; (try with_reducible rfl)
                (try simp only [cq])
                refine tkY 13 (some 79) ?_ ?_ ?_
                rotate_left
                · intro w hS0; (try dsimp only at hS0); have g0 := cell_later hS0 HC.out.1; have g1 := cell_later hS0 HC.out.2.1; have g2 := cell_later hS0 HC.out.2.2.1; have g3 := cell_later hS0 HC.out.2.2.2; have y0 := World.block_lt_of_cell? _ _ g0;go_simp; (try with_reducible rfl)
                (try simp only [cq])
                refine tkY 14 (some 80) ?_ ?_ ?_
                rotate_left
                · intro w _; go_simp; (try with_reducible rfl)
                (try simp only [cq])
                refine tkY 15 (some 81) ?_ ?_ ?_
                rotate_left
                · intro w _; go_simp; (try with_reducible rfl)
                (try simp only [cq])
                refine wpAnyH_done (by kernel_rfl) ?_ _
                (try dsimp only [Act.put])
                (try simp only [cq])
                clear hB
                have hB := hH
                clear hH
                go_wp2
                go_ret
                exact ⟨rfl, hB⟩
          · have b2 : f ≤ g := by omega
            skip
            have hr := HN.out (by rw [HE.out]; simp [eT1, eN_out, eO, orE, h1, h2])
            rw [HE.out] at hr
            have hr2 : r = 11 := by rw [hr]; simp [eT1, eN_out, eO, orE, h1, h2]
            subst hr2
            clear c0 c1 c2 c3 z0
            refine wp_region_held_drew (S := (fun v => Below w.heap.size w v)) (by kernel_rfl) ?_ (fun hH => ?_)
            · (try dsimp only); (exact hB.drew)
            refine tkY 0 (some 22) ?_ ?_ ?_
            rotate_left
            · intro w _; go_simp; (try with_reducible rfl)
            (try simp only [cq])
            refine tkY 1 (some 23) ?_ ?_ ?_
            rotate_left
            · intro w _; go_simp; (try with_reducible rfl)
            (try simp only [cq])
            refine tkY 2 (some 24) ?_ ?_ ?_
            rotate_left
            · intro w _; go_simp; (try with_reducible rfl)
            (try simp only [cq])
            refine tkN 3 (some 25) ?_
            (try simp only [cq])
            refine tkN 4 (some 26) ?_
            (try simp only [cq])
            refine tkN 5 (some 27) ?_
            (try simp only [cq])
            refine tkN 6 (some 28) ?_
            (try simp only [cq])
            refine tkN 7 (some 29) ?_
            (try simp only [cq])
            refine tkN 8 (some 30) ?_
            (try simp only [cq])
            refine tkY 9 (some 31) ?_ ?_ ?_
            rotate_left
            · intro w _; go_simp; (try with_reducible rfl)
            (try simp only [cq])
            refine tkY 10 (some 32) ?_ ?_ ?_
            rotate_left
            · intro w _; go_simp; (try with_reducible rfl)
            (try simp only [cq])
            refine tkY 11 (some 33) ?_ ?_ ?_
            rotate_left
            · intro w _; go_simp; (try with_reducible rfl)
            (try simp only [cq])
            refine tkY 12 (some 34) ?_ ?_ ?_
            rotate_left
            · intro w _; go_simp; (try with_reducible rfl)
            (try simp only [cq])
            refine tkY 13 (some 35) ?_ ?_ ?_
            rotate_left
            · intro w _; go_simp; (try with_reducible rfl)
            (try simp only [cq])
            refine tkY 14 (some 36) ?_ ?_ ?_
            rotate_left
            · intro w _; go_simp; (try with_reducible rfl)
            (try simp only [cq])
            refine tkY 15 (some 37) ?_ ?_ ?_
            rotate_left
            · intro w _; go_simp; (try with_reducible rfl)
            (try simp only [cq])
            refine tkY 16 (some 38) ?_ ?_ ?_
            rotate_left
            · intro w hS0; (try dsimp only at hS0); have g0 := cell_later hS0 HC.out.1; have g1 := cell_later hS0 HC.out.2.1; have g2 := cell_later hS0 HC.out.2.2.1; have g3 := cell_later hS0 HC.out.2.2.2; have y0 := World.block_lt_of_cell? _ _ g0;go_simp; (try with_reducible rfl)
            (try simp only [cq])
            refine tkY 17 (some 39) ?_ ?_ ?_
            rotate_left
            · intro w hS0; (try dsimp only at hS0); have g0 := cell_later hS0 HC.out.1; have g1 := cell_later hS0 HC.out.2.1; have g2 := cell_later hS0 HC.out.2.2.1; have g3 := cell_later hS0 HC.out.2.2.2; have y0 := World.block_lt_of_cell? _ _ g0;go_simp; (try with_reducible rfl)
            (try simp only [cq])
            refine tkY 18 (some 40) ?_ ?_ ?_
            rotate_left
            · intro w hS0; (try dsimp only at hS0); have g0 := cell_later hS0 HC.out.1; have g1 := cell_later hS0 HC.out.2.1; have g2 := cell_later hS0 HC.out.2.2.1; have g3 := cell_later hS0 HC.out.2.2.2; have y0 := World.block_lt_of_cell? _ _ g0;go_simp; (try with_reducible rfl)
            (try simp only [cq])
            refine tkY 19 (some 41) ?_ ?_ ?_
            rotate_left
            · intro w _; go_simp; (try with_reducible rfl)
            (try simp only [cq])
            refine tkY 20 (some 42) ?_ ?_ ?_
            rotate_left
            · intro w _; go_simp; (try with_reducible rfl)
            (try simp only [cq])
            refine tkY 21 (some 43) ?_ ?_ ?_
            rotate_left
            · intro w _; go_simp; (try with_reducible rfl)
            (try simp only [cq])
            refine tkY 22 (some 44) ?_ ?_ ?_
            rotate_left
            · intro w hS0; (try dsimp only at hS0); have g0 := cell_later hS0 HC.out.1; have g1 := cell_later hS0 HC.out.2.1; have g2 := cell_later hS0 HC.out.2.2.1; have g3 := cell_later hS0 HC.out.2.2.2; have y0 := World.block_lt_of_cell? _ _ g0;go_simp; (try with_reducible rfl)
            (try simp only [cq])
            refine tkY 23 (some 45) ?_ ?_ ?_
            rotate_left
            · intro w hS0; (try dsimp only at hS0); have g0 := cell_later hS0 HC.out.1; have g1 := cell_later hS0 HC.out.2.1; have g2 := cell_later hS0 HC.out.2.2.1; have g3 := cell_later hS0 HC.out.2.2.2; have y0 := World.block_lt_of_cell? _ _ g0;go_simp; (try with_reducible rfl)
            (try simp only [cq])
            refine tkY 24 (some 46) ?_ ?_ ?_
            rotate_left
            · intro w hS0; (try dsimp only at hS0); have g0 := cell_later hS0 HC.out.1; have g1 := cell_later hS0 HC.out.2.1; have g2 := cell_later hS0 HC.out.2.2.1; have g3 := cell_later hS0 HC.out.2.2.2; have y0 := World.block_lt_of_cell? _ _ g0;go_simp; (try with_reducible rfl)
            (try simp only [cq])
            refine tkY 25 (some 47) ?_ ?_ ?_
            rotate_left
            · intro w _; go_simp; (try with_reducible rfl)
            (try simp only [cq])
            refine tkY 26 (some 48) ?_ ?_ ?_
            rotate_left
            · intro w _; go_simp; (try with_reducible rfl)
            (try simp only [cq])
            refine tkY 27 (some 49) ?_ ?_ ?_
            rotate_left
            · intro w _; go_simp; (try with_reducible rfl)
            (try simp only [cq])
            refine wpAnyH_done (by kernel_rfl) ?_ _
            (try dsimp only [Act.put])
            (try simp only [cq])
            clear hB
            have hB := hH
            clear hH
            go_wp2
            go_ret
            exact ⟨rfl, hB⟩
    · have hr := HZ0.out (fun j hj => HJ.out j (by omega))
      subst hr
      go_wp2
      go_ret
      exact ⟨rfl, hB⟩
end Go.Proofs.Ytkkljbbgaogifaa

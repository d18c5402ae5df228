/-
  check.List with each closure of package fuel that keeps no state, at any list.
-/
import Derived.Test.YtpeogfcfiabcfaaTail
import Derived.Test.YtpeogfcfiabcfaaTab
set_option linter.unusedVariables false
set_option linter.unusedSimpArgs false
namespace Go.Proofs.Ytpeogfcfiabcfaa
open Go.RowKit

def eL (most : Int) (n : Nat) (X : Nat → Int) : Int := if most < n then 8 else firstNZ X 0 n

theorem lin_many (f : Value) (m : Int) (a : Option Addr) (n cap : Nat) (w : World) (hn : m < n) (hl : n ≤ 9223372036854775807) :
    Calls Try.prog 111 #[.slice a n cap, .int .i64 m, f] w fun e w' => e = .returned (.int .i64 8) ∧ w = w' := by
  have hE : eM n m = 8 := by unfold eM; rw [if_pos (by omega)]
  go_enter Try.func111, Try.ntmps111
  go_wp2_with (go_at_call 109; refine (most_any _ _ _).mono ?_; rintro e w' ⟨rfl, rfl⟩)
  go_ret
  exact ⟨rfl, rfl⟩
theorem lin_none (f : Value) (m : Int) (h0 : 0 ≤ m) (a : Option Addr) (cap : Nat) (w : World) :
    Calls Try.prog 111 #[.slice a 0 cap, .int .i64 m, f] w fun e w' => e = .returned (.int .i64 0) ∧ w = w' := by
  have hE : eM 0 m = 0 := by unfold eM; rw [if_neg (by omega)]
  go_enter Try.func111, Try.ntmps111
  go_wp2_with (go_at_call 109; refine (most_any _ _ _).mono ?_; rintro e w' ⟨rfl, rfl⟩)
  refine wp_loop_rounds 1 ?_
  rw [rounds_succ]
  go_wp2
  go_ret
  exact ⟨rfl, rfl⟩

set_option maxHeartbeats 1000000 in
theorem ltank_some (cp : Value) (X : Nat → Int) (b o n cap : Nat) (x : Nat → Int) (w : World) (hm : n ≤ 40) (hcap : n ≤ cap) (hl : cap ≤ 9223372036854775807) (hc : AtC w b o n 1 (inC x))
    (HK : Hid (∀ (i : Nat) (_ : i < n) (W : World), Below w.heap.size w W → Calls Try.prog 112 #[.int .i64 i, .int .i64 (x i), cp] W fun e w' => e = .returned (.int .i64 (X i)) ∧ Below W.heap.size W w')) :
    Calls Try.prog 111 #[.slice (some ⟨b, o, none⟩) n cap, .int .i64 40, .func (.func 112) #[] #[cp]] w fun e w' => e = .returned (.int .i64 (firstNZ X 0 n)) ∧ Below w.heap.size w w' := by
  have hE : eM n 40 = 0 := by unfold eM; rw [if_neg (by omega)]
  have HC := Lib.hid hc
  clear hc
  go_enter Try.func111, Try.ntmps111
  go_wp2_with (go_at_call 109; refine (most_any _ _ _).mono ?_; rintro e w' ⟨rfl, rfl⟩)
  go_loopw [20] (fun i wr => ∃ k : Nat, k ≤ n ∧ i = .int .i64 k ∧ firstNZ X 0 n = firstNZ X k (n - k) ∧ Below w.heap.size w wr) (fun i _ => n - (intOf i).toNat)
  case atStart => exact ⟨0, Nat.zero_le _, rfl, rfl, Below.refl _ _⟩
  case round =>
    obtain ⟨k, hk, rfl, hd, hB⟩ := hrel
    have HD := Lib.hid hd
    clear hd
    by_cases hlt2 : k < n
    · have a0 := HC.out.c1 hlt2 rfl
      replace a0 := cell_later hB a0
      have hbs := World.block_lt_of_cell? _ _ a0
      have hws : w.heap.size ≤ wr.heap.size := hB.size
      have HH0 : Hid (∀ _ : X k = 0, Hid _) := fun h => firstNZ_step0 X n k (by omega) h
      have HH1 : Hid (∀ _ : ¬ X k = 0, Hid _) := fun h => firstNZ_stepN X n k (by omega) h
      go_wp2_with fail
      refine (HK.out k hlt2 _ ?_).mono ?_
      · first | exact hB | (repeat (first | exact Below.refl _ _ | assumption | refine Below.drew ?_ | refine Below.drewN ?_ _ | refine blT ?_ | refine blU ?_))
      rintro e w2 ⟨rfl, hb2⟩
      have hBB : Below w.heap.size w w2 := bwS (by first | exact hB | (repeat (first | exact Below.refl _ _ | assumption | refine Below.drew ?_ | refine Below.drewN ?_ _ | refine blT ?_ | refine blU ?_))) (by first | exact Nat.le_refl _ | (simp; done) | (simp; omega)) hb2
      clear hb2
      by_cases hz2 : X k = 0
      · have H0 := HH0.out hz2
        have hz3 : (X k != 0) = false := by simpa using hz2
        clear hz2
        go_wp2
        go_roundw
        case rel => exact ⟨k + 1, by omega, by go_num, by rw [HD.out, H0.out], hBB⟩
        case measure => simp [intOf]; omega
      · have H0 := HH1.out hz2
        have hz3 : (X k != 0) = true := by simpa using hz2
        clear hz2
        go_wp2
        go_ret
        exact ⟨by rw [HD.out, H0.out]; rfl, hBB⟩
    · go_wp2
      go_ret
      have : n - k = 0 := by omega
      exact ⟨by rw [HD.out, this]; rfl, hB⟩
theorem ltank_any (cp : Value) (X : Nat → Int) (v : Value) (n : Nat) (x : Nat → Int) (w : World) (h : LAt w v n 1 (inC x))
    (HK : Hid (∀ (i : Nat) (_ : i < n) (W : World), Below w.heap.size w W → Calls Try.prog 112 #[.int .i64 i, .int .i64 (x i), cp] W fun e w' => e = .returned (.int .i64 (X i)) ∧ Below W.heap.size W w')) :
    Calls Try.prog 111 #[v, .int .i64 40, .func (.func 112) #[] #[cp]] w fun e w' => e = .returned (.int .i64 (eL 40 n X)) ∧ Below w.heap.size w w' := by
  obtain ⟨a, cap, rfl, h1, h2, h3⟩ := h
  unfold eL
  by_cases h0 : n = 0
  · subst h0
    rw [if_neg (by omega)]
    exact (lin_none _ 40 (by decide) a cap w).mono fun e w' ⟨he, hw⟩ => ⟨he, hw ▸ Below.refl _ _⟩
  by_cases h12 : 40 < n
  · rw [if_pos (by omega)]
    exact (lin_many _ 40 a n cap w (by omega) (by omega)).mono fun e w' ⟨he, hw⟩ => ⟨he, hw ▸ Below.refl _ _⟩
  rw [if_neg (by omega)]
  obtain ⟨b, o, rfl, hc⟩ := h3 (by omega)
  exact ltank_some _ X b o n cap _ w (by omega) h1 h2 hc HK

theorem lsp_many (f : Value) (m : Int) (a : Option Addr) (n cap : Nat) (w : World) (hn : m < n) (hl : n ≤ 9223372036854775807) :
    Calls Try.prog 99 #[.slice a n cap, .int .i64 m, f] w fun e w' => e = .returned (.int .i64 8) ∧ w = w' := by
  have hE : eM n m = 8 := by unfold eM; rw [if_pos (by omega)]
  go_enter Try.func99, Try.ntmps99
  go_wp2_with (go_at_call 109; refine (most_any _ _ _).mono ?_; rintro e w' ⟨rfl, rfl⟩)
  go_ret
  exact ⟨rfl, rfl⟩
theorem lsp_none (f : Value) (m : Int) (h0 : 0 ≤ m) (a : Option Addr) (cap : Nat) (w : World) :
    Calls Try.prog 99 #[.slice a 0 cap, .int .i64 m, f] w fun e w' => e = .returned (.int .i64 0) ∧ w = w' := by
  have hE : eM 0 m = 0 := by unfold eM; rw [if_neg (by omega)]
  go_enter Try.func99, Try.ntmps99
  go_wp2_with (go_at_call 109; refine (most_any _ _ _).mono ?_; rintro e w' ⟨rfl, rfl⟩)
  refine wp_loop_rounds 1 ?_
  rw [rounds_succ]
  go_wp2
  go_ret
  exact ⟨rfl, rfl⟩

set_option maxHeartbeats 1000000 in
theorem lcold_some (X : Nat → Int) (b o n cap : Nat) (A B : Nat → Int) (w : World) (hm : n ≤ 400) (hcap : n ≤ cap) (hl : cap ≤ 9223372036854775807) (hc : AtC w b o n 2 (spC A B))
    (HK : Hid (∀ (i : Nat) (_ : i < n) (W : World), Below w.heap.size w W → Calls Try.prog 100 #[.int .i64 i, .agg #[.int .i64 (A i), .int .i64 (B i)]] W fun e w' => e = .returned (.int .i64 (X i)) ∧ Below W.heap.size W w')) :
    Calls Try.prog 99 #[.slice (some ⟨b, o, none⟩) n cap, .int .i64 400, .func (.func 100) #[] #[]] w fun e w' => e = .returned (.int .i64 (firstNZ X 0 n)) ∧ Below w.heap.size w w' := by
  have hE : eM n 400 = 0 := by unfold eM; rw [if_neg (by omega)]
  have HC := Lib.hid hc
  clear hc
  go_enter Try.func99, Try.ntmps99
  go_wp2_with (go_at_call 109; refine (most_any _ _ _).mono ?_; rintro e w' ⟨rfl, rfl⟩)
  go_loopw [20] (fun i wr => ∃ k : Nat, k ≤ n ∧ i = .int .i64 k ∧ firstNZ X 0 n = firstNZ X k (n - k) ∧ Below w.heap.size w wr) (fun i _ => n - (intOf i).toNat)
  case atStart => exact ⟨0, Nat.zero_le _, rfl, rfl, Below.refl _ _⟩
  case round =>
    obtain ⟨k, hk, rfl, hd, hB⟩ := hrel
    have HD := Lib.hid hd
    clear hd
    by_cases hlt2 : k < n
    · obtain ⟨a0, a1⟩ := HC.out.c2 hlt2 rfl
      replace a0 := cell_later hB a0
      replace a1 := cell_later hB a1
      have hbs := World.block_lt_of_cell? _ _ a0
      have hws : w.heap.size ≤ wr.heap.size := hB.size
      have HH0 : Hid (∀ _ : X k = 0, Hid _) := fun h => firstNZ_step0 X n k (by omega) h
      have HH1 : Hid (∀ _ : ¬ X k = 0, Hid _) := fun h => firstNZ_stepN X n k (by omega) h
      go_wp2_with fail
      refine (HK.out k hlt2 _ ?_).mono ?_
      · first | exact hB | (repeat (first | exact Below.refl _ _ | assumption | refine Below.drew ?_ | refine Below.drewN ?_ _ | refine blT ?_ | refine blU ?_))
      rintro e w2 ⟨rfl, hb2⟩
      have hBB : Below w.heap.size w w2 := bwS (by first | exact hB | (repeat (first | exact Below.refl _ _ | assumption | refine Below.drew ?_ | refine Below.drewN ?_ _ | refine blT ?_ | refine blU ?_))) (by first | exact Nat.le_refl _ | (simp; done) | (simp; omega)) hb2
      clear hb2
      by_cases hz2 : X k = 0
      · have H0 := HH0.out hz2
        have hz3 : (X k != 0) = false := by simpa using hz2
        clear hz2
        go_wp2
        go_roundw
        case rel => exact ⟨k + 1, by omega, by go_num, by rw [HD.out, H0.out], hBB⟩
        case measure => simp [intOf]; omega
      · have H0 := HH1.out hz2
        have hz3 : (X k != 0) = true := by simpa using hz2
        clear hz2
        go_wp2
        go_ret
        exact ⟨by rw [HD.out, H0.out]; rfl, hBB⟩
    · go_wp2
      go_ret
      have : n - k = 0 := by omega
      exact ⟨by rw [HD.out, this]; rfl, hB⟩
theorem lcold_any (X : Nat → Int) (v : Value) (n : Nat) (A B : Nat → Int) (w : World) (h : LAt w v n 2 (spC A B))
    (HK : Hid (∀ (i : Nat) (_ : i < n) (W : World), Below w.heap.size w W → Calls Try.prog 100 #[.int .i64 i, .agg #[.int .i64 (A i), .int .i64 (B i)]] W fun e w' => e = .returned (.int .i64 (X i)) ∧ Below W.heap.size W w')) :
    Calls Try.prog 99 #[v, .int .i64 400, .func (.func 100) #[] #[]] w fun e w' => e = .returned (.int .i64 (eL 400 n X)) ∧ Below w.heap.size w w' := by
  obtain ⟨a, cap, rfl, h1, h2, h3⟩ := h
  unfold eL
  by_cases h0 : n = 0
  · subst h0
    rw [if_neg (by omega)]
    exact (lsp_none _ 400 (by decide) a cap w).mono fun e w' ⟨he, hw⟩ => ⟨he, hw ▸ Below.refl _ _⟩
  by_cases h12 : 400 < n
  · rw [if_pos (by omega)]
    exact (lsp_many _ 400 a n cap w (by omega) (by omega)).mono fun e w' ⟨he, hw⟩ => ⟨he, hw ▸ Below.refl _ _⟩
  rw [if_neg (by omega)]
  obtain ⟨b, o, rfl, hc⟩ := h3 (by omega)
  exact lcold_some  X b o n cap _ _ w (by omega) h1 h2 hc HK

theorem lbu_many (f : Value) (m : Int) (a : Option Addr) (n cap : Nat) (w : World) (hn : m < n) (hl : n ≤ 9223372036854775807) :
    Calls Try.prog 141 #[.slice a n cap, .int .i64 m, f] w fun e w' => e = .returned (.int .i64 8) ∧ w = w' := by
  have hE : eM n m = 8 := by unfold eM; rw [if_pos (by omega)]
  go_enter Try.func141, Try.ntmps141
  go_wp2_with (go_at_call 109; refine (most_any _ _ _).mono ?_; rintro e w' ⟨rfl, rfl⟩)
  go_ret
  exact ⟨rfl, rfl⟩
theorem lbu_none (f : Value) (m : Int) (h0 : 0 ≤ m) (a : Option Addr) (cap : Nat) (w : World) :
    Calls Try.prog 141 #[.slice a 0 cap, .int .i64 m, f] w fun e w' => e = .returned (.int .i64 0) ∧ w = w' := by
  have hE : eM 0 m = 0 := by unfold eM; rw [if_neg (by omega)]
  go_enter Try.func141, Try.ntmps141
  go_wp2_with (go_at_call 109; refine (most_any _ _ _).mono ?_; rintro e w' ⟨rfl, rfl⟩)
  refine wp_loop_rounds 1 ?_
  rw [rounds_succ]
  go_wp2
  go_ret
  exact ⟨rfl, rfl⟩

set_option maxHeartbeats 1000000 in
theorem lburn_some (cp : Value) (X : Nat → Int) (b o n cap : Nat) (U : Nat → Bu) (w : World) (hm : n ≤ 12) (hcap : n ≤ cap) (hl : cap ≤ 9223372036854775807) (hc : AtC w b o n 3 (buC U))
    (HK : Hid (∀ (i : Nat) (_ : i < n) (W : World), Below w.heap.size w W → Calls Try.prog 142 #[.int .i64 i, .agg #[.int .i64 ((U i).co), .int .i64 ((U i).lo), .int .i64 ((U i).hi)], cp] W fun e w' => e = .returned (.int .i64 (X i)) ∧ Below W.heap.size W w')) :
    Calls Try.prog 141 #[.slice (some ⟨b, o, none⟩) n cap, .int .i64 12, .func (.func 142) #[] #[cp]] w fun e w' => e = .returned (.int .i64 (firstNZ X 0 n)) ∧ Below w.heap.size w w' := by
  have hE : eM n 12 = 0 := by unfold eM; rw [if_neg (by omega)]
  have HC := Lib.hid hc
  clear hc
  go_enter Try.func141, Try.ntmps141
  go_wp2_with (go_at_call 109; refine (most_any _ _ _).mono ?_; rintro e w' ⟨rfl, rfl⟩)
  go_loopw [20] (fun i wr => ∃ k : Nat, k ≤ n ∧ i = .int .i64 k ∧ firstNZ X 0 n = firstNZ X k (n - k) ∧ Below w.heap.size w wr) (fun i _ => n - (intOf i).toNat)
  case atStart => exact ⟨0, Nat.zero_le _, rfl, rfl, Below.refl _ _⟩
  case round =>
    obtain ⟨k, hk, rfl, hd, hB⟩ := hrel
    have HD := Lib.hid hd
    clear hd
    by_cases hlt2 : k < n
    · obtain ⟨a0, a1, a2⟩ := HC.out.c3 hlt2 rfl
      replace a0 := cell_later hB a0
      replace a1 := cell_later hB a1
      replace a2 := cell_later hB a2
      have hbs := World.block_lt_of_cell? _ _ a0
      have hws : w.heap.size ≤ wr.heap.size := hB.size
      have HH0 : Hid (∀ _ : X k = 0, Hid _) := fun h => firstNZ_step0 X n k (by omega) h
      have HH1 : Hid (∀ _ : ¬ X k = 0, Hid _) := fun h => firstNZ_stepN X n k (by omega) h
      go_wp2_with fail
      refine (HK.out k hlt2 _ ?_).mono ?_
      · first | exact hB | (repeat (first | exact Below.refl _ _ | assumption | refine Below.drew ?_ | refine Below.drewN ?_ _ | refine blT ?_ | refine blU ?_))
      rintro e w2 ⟨rfl, hb2⟩
      have hBB : Below w.heap.size w w2 := bwS (by first | exact hB | (repeat (first | exact Below.refl _ _ | assumption | refine Below.drew ?_ | refine Below.drewN ?_ _ | refine blT ?_ | refine blU ?_))) (by first | exact Nat.le_refl _ | (simp; done) | (simp; omega)) hb2
      clear hb2
      by_cases hz2 : X k = 0
      · have H0 := HH0.out hz2
        have hz3 : (X k != 0) = false := by simpa using hz2
        clear hz2
        go_wp2
        go_roundw
        case rel => exact ⟨k + 1, by omega, by go_num, by rw [HD.out, H0.out], hBB⟩
        case measure => simp [intOf]; omega
      · have H0 := HH1.out hz2
        have hz3 : (X k != 0) = true := by simpa using hz2
        clear hz2
        go_wp2
        go_ret
        exact ⟨by rw [HD.out, H0.out]; rfl, hBB⟩
    · go_wp2
      go_ret
      have : n - k = 0 := by omega
      exact ⟨by rw [HD.out, this]; rfl, hB⟩
theorem lburn_any (cp : Value) (X : Nat → Int) (v : Value) (n : Nat) (U : Nat → Bu) (w : World) (h : LAt w v n 3 (buC U))
    (HK : Hid (∀ (i : Nat) (_ : i < n) (W : World), Below w.heap.size w W → Calls Try.prog 142 #[.int .i64 i, .agg #[.int .i64 ((U i).co), .int .i64 ((U i).lo), .int .i64 ((U i).hi)], cp] W fun e w' => e = .returned (.int .i64 (X i)) ∧ Below W.heap.size W w')) :
    Calls Try.prog 141 #[v, .int .i64 12, .func (.func 142) #[] #[cp]] w fun e w' => e = .returned (.int .i64 (eL 12 n X)) ∧ Below w.heap.size w w' := by
  obtain ⟨a, cap, rfl, h1, h2, h3⟩ := h
  unfold eL
  by_cases h0 : n = 0
  · subst h0
    rw [if_neg (by omega)]
    exact (lbu_none _ 12 (by decide) a cap w).mono fun e w' ⟨he, hw⟩ => ⟨he, hw ▸ Below.refl _ _⟩
  by_cases h12 : 12 < n
  · rw [if_pos (by omega)]
    exact (lbu_many _ 12 a n cap w (by omega) (by omega)).mono fun e w' ⟨he, hw⟩ => ⟨he, hw ▸ Below.refl _ _⟩
  rw [if_neg (by omega)]
  obtain ⟨b, o, rfl, hc⟩ := h3 (by omega)
  exact lburn_some _ X b o n cap _ w (by omega) h1 h2 hc HK

theorem lmv_many (f : Value) (m : Int) (a : Option Addr) (n cap : Nat) (w : World) (hn : m < n) (hl : n ≤ 9223372036854775807) :
    Calls Try.prog 146 #[.slice a n cap, .int .i64 m, f] w fun e w' => e = .returned (.int .i64 8) ∧ w = w' := by
  have hE : eM n m = 8 := by unfold eM; rw [if_pos (by omega)]
  go_enter Try.func146, Try.ntmps146
  go_wp2_with (go_at_call 109; refine (most_any _ _ _).mono ?_; rintro e w' ⟨rfl, rfl⟩)
  go_ret
  exact ⟨rfl, rfl⟩
theorem lmv_none (f : Value) (m : Int) (h0 : 0 ≤ m) (a : Option Addr) (cap : Nat) (w : World) :
    Calls Try.prog 146 #[.slice a 0 cap, .int .i64 m, f] w fun e w' => e = .returned (.int .i64 0) ∧ w = w' := by
  have hE : eM 0 m = 0 := by unfold eM; rw [if_neg (by omega)]
  go_enter Try.func146, Try.ntmps146
  go_wp2_with (go_at_call 109; refine (most_any _ _ _).mono ?_; rintro e w' ⟨rfl, rfl⟩)
  refine wp_loop_rounds 1 ?_
  rw [rounds_succ]
  go_wp2
  go_ret
  exact ⟨rfl, rfl⟩

set_option maxHeartbeats 1000000 in
theorem lmove_some (cp : Value) (X : Nat → Int) (b o n cap : Nat) (M : Nat → Mv) (w : World) (hm : n ≤ 30) (hcap : n ≤ cap) (hl : cap ≤ 9223372036854775807) (hc : AtC w b o n 4 (mvC M))
    (HK : Hid (∀ (i : Nat) (_ : i < n) (W : World), Below w.heap.size w W → Calls Try.prog 147 #[.int .i64 i, .agg #[.int .i64 ((M i).fr), .int .i64 ((M i).tt), .int .i64 ((M i).lo), .int .i64 ((M i).hi)], cp] W fun e w' => e = .returned (.int .i64 (X i)) ∧ Below W.heap.size W w')) :
    Calls Try.prog 146 #[.slice (some ⟨b, o, none⟩) n cap, .int .i64 30, .func (.func 147) #[] #[cp]] w fun e w' => e = .returned (.int .i64 (firstNZ X 0 n)) ∧ Below w.heap.size w w' := by
  have hE : eM n 30 = 0 := by unfold eM; rw [if_neg (by omega)]
  have HC := Lib.hid hc
  clear hc
  go_enter Try.func146, Try.ntmps146
  go_wp2_with (go_at_call 109; refine (most_any _ _ _).mono ?_; rintro e w' ⟨rfl, rfl⟩)
  go_loopw [20] (fun i wr => ∃ k : Nat, k ≤ n ∧ i = .int .i64 k ∧ firstNZ X 0 n = firstNZ X k (n - k) ∧ Below w.heap.size w wr) (fun i _ => n - (intOf i).toNat)
  case atStart => exact ⟨0, Nat.zero_le _, rfl, rfl, Below.refl _ _⟩
  case round =>
    obtain ⟨k, hk, rfl, hd, hB⟩ := hrel
    have HD := Lib.hid hd
    clear hd
    by_cases hlt2 : k < n
    · obtain ⟨a0, a1, a2, a3⟩ := HC.out.c4 hlt2 rfl
      replace a0 := cell_later hB a0
      replace a1 := cell_later hB a1
      replace a2 := cell_later hB a2
      replace a3 := cell_later hB a3
      have hbs := World.block_lt_of_cell? _ _ a0
      have hws : w.heap.size ≤ wr.heap.size := hB.size
      have HH0 : Hid (∀ _ : X k = 0, Hid _) := fun h => firstNZ_step0 X n k (by omega) h
      have HH1 : Hid (∀ _ : ¬ X k = 0, Hid _) := fun h => firstNZ_stepN X n k (by omega) h
      go_wp2_with fail
      refine (HK.out k hlt2 _ ?_).mono ?_
      · first | exact hB | (repeat (first | exact Below.refl _ _ | assumption | refine Below.drew ?_ | refine Below.drewN ?_ _ | refine blT ?_ | refine blU ?_))
      rintro e w2 ⟨rfl, hb2⟩
      have hBB : Below w.heap.size w w2 := bwS (by first | exact hB | (repeat (first | exact Below.refl _ _ | assumption | refine Below.drew ?_ | refine Below.drewN ?_ _ | refine blT ?_ | refine blU ?_))) (by first | exact Nat.le_refl _ | (simp; done) | (simp; omega)) hb2
      clear hb2
      by_cases hz2 : X k = 0
      · have H0 := HH0.out hz2
        have hz3 : (X k != 0) = false := by simpa using hz2
        clear hz2
        go_wp2
        go_roundw
        case rel => exact ⟨k + 1, by omega, by go_num, by rw [HD.out, H0.out], hBB⟩
        case measure => simp [intOf]; omega
      · have H0 := HH1.out hz2
        have hz3 : (X k != 0) = true := by simpa using hz2
        clear hz2
        go_wp2
        go_ret
        exact ⟨by rw [HD.out, H0.out]; rfl, hBB⟩
    · go_wp2
      go_ret
      have : n - k = 0 := by omega
      exact ⟨by rw [HD.out, this]; rfl, hB⟩
theorem lmove_any (cp : Value) (X : Nat → Int) (v : Value) (n : Nat) (M : Nat → Mv) (w : World) (h : LAt w v n 4 (mvC M))
    (HK : Hid (∀ (i : Nat) (_ : i < n) (W : World), Below w.heap.size w W → Calls Try.prog 147 #[.int .i64 i, .agg #[.int .i64 ((M i).fr), .int .i64 ((M i).tt), .int .i64 ((M i).lo), .int .i64 ((M i).hi)], cp] W fun e w' => e = .returned (.int .i64 (X i)) ∧ Below W.heap.size W w')) :
    Calls Try.prog 146 #[v, .int .i64 30, .func (.func 147) #[] #[cp]] w fun e w' => e = .returned (.int .i64 (eL 30 n X)) ∧ Below w.heap.size w w' := by
  obtain ⟨a, cap, rfl, h1, h2, h3⟩ := h
  unfold eL
  by_cases h0 : n = 0
  · subst h0
    rw [if_neg (by omega)]
    exact (lmv_none _ 30 (by decide) a cap w).mono fun e w' ⟨he, hw⟩ => ⟨he, hw ▸ Below.refl _ _⟩
  by_cases h12 : 30 < n
  · rw [if_pos (by omega)]
    exact (lmv_many _ 30 a n cap w (by omega) (by omega)).mono fun e w' ⟨he, hw⟩ => ⟨he, hw ▸ Below.refl _ _⟩
  rw [if_neg (by omega)]
  obtain ⟨b, o, rfl, hc⟩ := h3 (by omega)
  exact lmove_some _ X b o n cap _ w (by omega) h1 h2 hc HK

theorem lac_many (f : Value) (m : Int) (a : Option Addr) (n cap : Nat) (w : World) (hn : m < n) (hl : n ≤ 9223372036854775807) :
    Calls Try.prog 153 #[.slice a n cap, .int .i64 m, f] w fun e w' => e = .returned (.int .i64 8) ∧ w = w' := by
  have hE : eM n m = 8 := by unfold eM; rw [if_pos (by omega)]
  go_enter Try.func153, Try.ntmps153
  go_wp2_with (go_at_call 109; refine (most_any _ _ _).mono ?_; rintro e w' ⟨rfl, rfl⟩)
  go_ret
  exact ⟨rfl, rfl⟩
theorem lac_none (f : Value) (m : Int) (h0 : 0 ≤ m) (a : Option Addr) (cap : Nat) (w : World) :
    Calls Try.prog 153 #[.slice a 0 cap, .int .i64 m, f] w fun e w' => e = .returned (.int .i64 0) ∧ w = w' := by
  have hE : eM 0 m = 0 := by unfold eM; rw [if_neg (by omega)]
  go_enter Try.func153, Try.ntmps153
  go_wp2_with (go_at_call 109; refine (most_any _ _ _).mono ?_; rintro e w' ⟨rfl, rfl⟩)
  refine wp_loop_rounds 1 ?_
  rw [rounds_succ]
  go_wp2
  go_ret
  exact ⟨rfl, rfl⟩
end Go.Proofs.Ytpeogfcfiabcfaa

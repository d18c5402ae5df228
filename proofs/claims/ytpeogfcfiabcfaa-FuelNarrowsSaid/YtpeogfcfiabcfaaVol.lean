/-
  What is in a valid tank (package fuel).
-/
import Derived.Test.YtpeogfcfiabcfaaTail
import Derived.Test.YtpeogfcfiabcfaaTnv
set_option linter.unusedVariables false
set_option linter.unusedSimpArgs false
namespace Go.Proofs.Ytpeogfcfiabcfaa
open Go.RowKit

def upQ (a b : Int) : Int := (a + b - 1) / b
set_option maxHeartbeats 1000000 in
set_option maxRecDepth 100000 in
theorem fraction_any (a b : Int) (ha : 0 ≤ a) (ha2 : a ≤ 4000000000000000000) (hb : 1 ≤ b) (hb2 : b ≤ 1000000000) (w : World) :
    Calls Try.prog 118 #[.int .i64 a, .int .i64 b] w fun e w' => e = .returned (.agg #[.int .i64 (a / b), .int .i64 (upQ a b)]) ∧ Below w.heap.size w w' := by
  have j0 := Blk.new w #[.int .i64 0, .int .i64 0] 26
  have jB : Below w.heap.size w (w.alloc (.cells #[.int .i64 0, .int .i64 0] 26)) := by (repeat (first | exact Below.refl _ _ | assumption | refine Below.drew ?_ | refine Below.drewN ?_ _ | refine blT ?_ | refine blU ?_))
  have jN := Blk.new w #[.int .i64 (a / b), .int .i64 (upQ a b)] 26
  have jNB : Below w.heap.size w (w.alloc (.cells #[.int .i64 (a / b), .int .i64 (upQ a b)] 26)) := by (repeat (first | exact Below.refl _ _ | assumption | refine Below.drew ?_ | refine Below.drewN ?_ _ | refine blT ?_ | refine blU ?_))
  have h1 : (b == 0) = false := by simp; omega
  have h1' : ¬ b = 0 := by omega
  have e1 : a.tdiv b = a / b := Int.tdiv_eq_ediv_of_nonneg ha
  have e2 : (a + b - 1).tdiv b = upQ a b := Int.tdiv_eq_ediv_of_nonneg (by omega)
  have b1 : 0 ≤ a / b := Int.ediv_nonneg ha (by omega)
  have b2 : a / b ≤ a := Int.ediv_le_self b ha
  have b3 : 0 ≤ upQ a b := Int.ediv_nonneg (by omega) (by omega)
  have b4 : upQ a b ≤ a + b - 1 := Int.ediv_le_self b (by omega)
  have w1 : IntKind.i64.wrap (a / b) = a / b := IntWalk.i64_in _ (by omega)
  have w2 : IntKind.i64.wrap (a + b) = a + b := IntWalk.i64_in _ (by omega)
  have w3 : IntKind.i64.wrap (a + b - 1) = a + b - 1 := IntWalk.i64_in _ (by omega)
  have w4 : IntKind.i64.wrap (upQ a b) = upQ a b := IntWalk.i64_in _ (by omega)
  clear b1 b2 b3 b4
  go_enter Try.func118, Try.ntmps118
  go_wp2_with fail
  (
 refine wp_region_held_drew (S := (fun w' => Two w' w.heap.size 26 ∧ Below w.heap.size w w')) (by kernel_rfl) ?_ (fun hH => ?_)
 · (try dsimp only); (exact ⟨⟨_, _, j0⟩, jB.drew⟩)
 refine tkY 0 (some 5) ?_ ?_ ?_
 rotate_left
 · intro w _; go_simp; (try with_reducible rfl)
 (try simp only [cq])
 refine tkY 1 (some 6) ?_ ?_ ?_
 rotate_left
 · intro w _; go_simp; (try with_reducible rfl)
 (try simp only [cq])
 refine tkY 2 (some 7) ?_ ?_ ?_
 rotate_left
 · intro w _; go_simp; (try with_reducible rfl)
 (try simp only [cq])
 refine tkY 3 (some 8) ?_ ?_ ?_
 rotate_left
 · intro w _; go_simp; (try with_reducible rfl)
 (try simp only [cq])
 refine tkY 4 (some 9) ?_ ?_ ?_
 rotate_left
 · intro w _; go_simp; (try with_reducible rfl)
 (try simp only [cq])
 refine tkY 5 (some 10) ?_ ?_ ?_
 rotate_left
 · intro w _; go_simp; (try with_reducible rfl)
 (try simp only [cq])
 refine tkY 6 (some 11) ?_ ?_ ?_
 rotate_left
 · intro w _; go_simp; (try with_reducible rfl)
 (try simp only [cq])
 refine tkY 7 (some 12) ?_ ?_ ?_
 rotate_left
 · intro w _; go_simp; (try with_reducible rfl)
 (try simp only [cq])
 refine tkY 8 (some 13) ?_ ?_ ?_
 rotate_left
 · intro w _; go_simp; (try with_reducible rfl)
 (try simp only [cq])
 refine tkY 9 (some 14) ?_ ?_ ?_
 rotate_left
 · intro w _; go_simp; (try with_reducible rfl)
 (try simp only [cq])
 refine wpAnyH_ready (rs := [10]) (by kernel_rfl) (by simp) ?_
 refine arc1 none fun K hK => ?_
 go_simp
 refine hK.out _ _ ?_ (fun hH => ?_)
 · exact ⟨⟨_, _, jN.drew⟩, jNB.drew⟩
 clear hK K
 (try simp only [cq])
 refine wpAnyH_done (by kernel_rfl) ?_ _
 (try dsimp only [Act.put])
 (try simp only [cq])
 obtain ⟨z0, z1⟩ := jN.drew.c2
 go_wp2
 exact bodyPost_ret (v := .agg #[.int .i64 (a / b), .int .i64 (upQ a b)]) (by simp [results, Try.results118, go_sem, z0, z1]) rfl ⟨rfl, jNB.drew⟩ )

set_option maxRecDepth 100000 in
set_option maxHeartbeats 1000000 in
theorem search2_in (n : Nat) (hn : n ≤ 1000000) (p q : Value) (f : Nat → Bool) (w : World) (hf : ∀ i, i < n → ∀ W, Below w.heap.size w W → Calls Try.prog 117 #[.int .i64 i, p, q] W fun e w' => e = .returned (.bool (f i)) ∧ Below W.heap.size W w') :
    Calls Try.prog 116 #[.int .i64 n, .func (.func 117) #[] #[p, q]] w fun e w' => ∃ k : Nat, e = .returned (.int .i64 k) ∧ k ≤ n ∧ (k < n → f k = true) ∧ (∀ j, k = j + 1 → f j = false) ∧ Below w.heap.size w w' := by
  have HF := Lib.hid hf
  clear hf
  go_enter Try.func116, Try.ntmps116
  go_wp2_with fail
  go_loopw [5, 6, 7] (fun vi vj vh wr => ∃ i j : Nat, i ≤ j ∧ j ≤ n ∧ vi = .int .i64 i ∧ vj = .int .i64 j ∧ (j < n → f j = true) ∧ (∀ q, i = q + 1 → f q = false) ∧ Below w.heap.size w wr) (fun vi vj _ _ => (intOf vj).toNat - (intOf vi).toNat)
  case atStart => exact ⟨0, n, Nat.zero_le _, Nat.le_refl _, rfl, rfl, fun h => absurd h (Nat.lt_irrefl _), fun q h => by omega, Below.refl _ _⟩
  case round =>
    obtain ⟨i, j, hij, hjn, rfl, rfl, h1, h2, hIw⟩ := hrel
    have H1 := Lib.hid h1
    have H2 := Lib.hid h2
    clear h1 h2
    by_cases hlt : i < j
    · have e1 : IntKind.i64.wrap ((i : Int) + (j : Int)) = (i : Int) + (j : Int) := IntWalk.i64_in _ (by omega)
      go_wp2_with fail
      have hh : ((i : Int) + (j : Int)) / 2 = (((i + j) / 2 : Nat) : Int) := by omega
      simp only [hh]
      clear hh e1
      obtain ⟨h, hh⟩ : ∃ h, (i + j) / 2 = h := ⟨_, rfl⟩
      have b1 : i ≤ h := by omega
      have b2 : h < j := by omega
      rw [hh]
      clear hh
      refine (HF.out h (by omega) _ hIw).mono ?_
      rintro e w2 ⟨rfl, hb⟩
      have hI2 := bwS hIw (Nat.le_refl _) hb
      clear hb
      have e3 : IntKind.i64.wrap ((h : Int) + 1) = (h : Int) + 1 := IntWalk.i64_in _ (by omega)
      cases hv : f h with
      | true =>
        have H3 := Lib.hid hv
        clear hv
        go_wp2
        go_roundw
        case rel => exact ⟨i, h, b1, by omega, rfl, rfl, fun _ => H3.out, H2.out, hI2⟩
        case measure => simp [intOf]; omega
      | false =>
        have H3 := Lib.hid hv
        clear hv
        go_wp2
        go_roundw
        case rel => exact ⟨h + 1, j, by omega, hjn, by go_num, rfl, H1.out, fun q hq => by rw [← show h = q by omega]; exact H3.out, hI2⟩
        case measure => simp [intOf]; omega
    · have hij2 : j = i := by omega
      subst hij2
      go_wp2
      go_ret
      exact ⟨_, rfl, hjn, H1.out, H2.out, hIw⟩

set_option maxRecDepth 100000 in
set_option maxHeartbeats 1000000 in
theorem conts1_any (H : Nat → Int) (h : Int) (bT bQ b o n cH i : Nat) (hi : i + 1 < n) (hn : n ≤ 1000000) (w : World) (hv : w.cell? ⟨bT, 0, none⟩ = some (.slice (some ⟨b, o, none⟩) n cH)) (hq : w.cell? ⟨bQ, 0, none⟩ = some (.int .i64 h)) (hH : AtC w b o n 1 (inC H)) :
    Calls Try.prog 117 #[.int .i64 i, .pointer (some ⟨bT, 0, none⟩), .pointer (some ⟨bQ, 0, none⟩)] w fun e w' => e = .returned (.bool (decide (h ≤ H (i + 1)))) ∧ Below w.heap.size w w' := by
  have a1 := hH.c1 hi rfl
  obtain ⟨y, hy⟩ : ∃ y, H (i + 1) = y := ⟨_, rfl⟩
  rw [hy] at a1 ⊢
  clear hy hH
  have z1 := World.block_lt_of_cell? _ _ hv
  have z2 := World.block_lt_of_cell? _ _ hq
  have z3 := World.block_lt_of_cell? _ _ a1
  have e1 : IntKind.i64.wrap ((i : Int) + 1) = (i : Int) + 1 := IntWalk.i64_in _ (by omega)
  have e2 : (0 : Int) ≤ (i : Int) + 1 := by omega
  have e3 : (i : Int) + 1 < n := by omega
  go_enter Try.func117, Try.ntmps117
  go_wp2_with fail
  refine wp_region_held_drew (S := (fun w' => w'.cell? ⟨bT, 0, none⟩ = some (.slice (some ⟨b, o, none⟩) n cH) ∧ w'.cell? ⟨bQ, 0, none⟩ = some (.int .i64 h) ∧ w'.cell? ⟨b, o + (i + 1), none⟩ = some (.int .i64 y) ∧ Below w.heap.size w w')) (by kernel_rfl) ?_ (fun hH => ?_)
  · (try dsimp only); (go_split_ands; refine ⟨?_, ?_, ?_, ?_⟩ <;> (first | assumption | (go_simp; done) | (go_keep; done) | (refine cell_later hb ?_; first | assumption | (go_keep; done)) | (refine bwS ?_ ?_ hb; (first | assumption | ((repeat (first | exact Below.refl _ _ | assumption | refine Below.drew ?_ | refine Below.drewN ?_ _ | refine blT ?_ | refine blU ?_)); done)); (first | exact Nat.le_refl _ | (simp; done) | (simp; omega))) | ((repeat (first | exact Below.refl _ _ | assumption | refine Below.drew ?_ | refine Below.drewN ?_ _ | refine blT ?_ | refine blU ?_)); done)))
  refine tkY 0 (some 5) ?_ ?_ ?_
  rotate_left
  · intro w hS0; go_simp; (try with_reducible rfl)
  (try simp only [cq])
  refine tkY 1 (some 6) ?_ ?_ ?_
  rotate_left
  · intro w hS0; go_simp; (try with_reducible rfl)
  (try simp only [cq])
  refine tkY 2 (some 7) ?_ ?_ ?_
  rotate_left
  · intro w _; go_simp; (try with_reducible rfl)
  (try simp only [cq])
  refine tkY 3 (some 8) ?_ ?_ ?_
  rotate_left
  · intro w _; go_simp; (try with_reducible rfl)
  (try simp only [cq])
  refine tkY 4 (some 9) ?_ ?_ ?_
  rotate_left
  · intro w hS0; go_simp; (try with_reducible rfl)
  (try simp only [cq])
  refine tkY 5 (some 10) ?_ ?_ ?_
  rotate_left
  · intro w hS0; go_simp; (try with_reducible rfl)
  (try simp only [cq])
  refine tkY 6 (some 11) ?_ ?_ ?_
  rotate_left
  · intro w hS0; go_simp; (try with_reducible rfl)
  (try simp only [cq])
  refine tkY 7 (some 12) ?_ ?_ ?_
  rotate_left
  · intro w _; go_simp; (try with_reducible rfl)
  (try simp only [cq])
  refine tkY 8 (some 4) ?_ ?_ ?_
  rotate_left
  · intro w _; go_simp; (try with_reducible rfl)
  (try simp only [cq])
  refine wpAnyH_done (by kernel_rfl) ?_ _
  (try dsimp only [Act.put])
  (try simp only [cq])
  have hBB : Below w.heap.size w _ := hH.2.2.2
  clear hH
  go_wp2
  go_ret
  exact ⟨rfl, hBB⟩
end Go.Proofs.Ytpeogfcfiabcfaa

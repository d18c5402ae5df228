/-
  The contract of frost.first at a list of ice.
-/
import Derived.Test.YtoobgjigfmnnaaaTail
import Derived.Test.YtoobgjigfmnnaaaRdy
set_option linter.unusedVariables false
set_option linter.unusedSimpArgs false
namespace Go.Proofs.Ytoobgjigfmnnaaa
open Go.RowKit

def firstI (g : Nat → Bool) : Nat → Nat → Int
  | _, 0 => 0
  | k, m + 1 => cond (g k) ((k : Int) + 1) (firstI g (k + 1) m)
theorem firstI_yes (g : Nat → Bool) (n k : Nat) (h : k < n) (hg : g k = true) : firstI g k (n - k) = (k : Int) + 1 := by
  obtain ⟨m, rfl⟩ : ∃ m, n = k + 1 + m := ⟨n - k - 1, by omega⟩
  rw [show k + 1 + m - k = m + 1 by omega]
  simp [firstI, hg]
theorem firstI_no (g : Nat → Bool) (n k : Nat) (h : k < n) (hg : g k = false) : firstI g k (n - k) = firstI g (k + 1) (n - (k + 1)) := by
  obtain ⟨m, rfl⟩ : ∃ m, n = k + 1 + m := ⟨n - k - 1, by omega⟩
  rw [show k + 1 + m - k = m + 1 by omega, show k + 1 + m - (k + 1) = m by omega]
  simp [firstI, hg]

def IcesAt (w : World) (b o n : Nat) (x : Nat → Ic) : Prop :=
  ∀ i, i < n → w.cell? ⟨b, o + i * 8, none⟩ = some (.int .i64 (x i).b0) ∧ w.cell? ⟨b, o + i * 8 + 1, none⟩ = some (.int .i64 (x i).b1) ∧ w.cell? ⟨b, o + i * 8 + 2, none⟩ = some (.int .i64 (x i).w0) ∧ w.cell? ⟨b, o + i * 8 + 3, none⟩ = some (.int .i64 (x i).w1) ∧
    w.cell? ⟨b, o + i * 8 + 4, none⟩ = some (.int .i64 (x i).q0) ∧ w.cell? ⟨b, o + i * 8 + 5, none⟩ = some (.int .i64 (x i).q1) ∧ w.cell? ⟨b, o + i * 8 + 6, none⟩ = some (.int .i64 (x i).s0) ∧ w.cell? ⟨b, o + i * 8 + 7, none⟩ = some (.int .i64 (x i).s1)

set_option maxRecDepth 100000 in
set_option maxHeartbeats 2000000 in
theorem first1_some (p1 p2 : Value) (b o n cap : Nat) (x : Nat → Ic) (g : Nat → Bool) (w : World) (hn : n ≤ 1000000) (hc : IcesAt w b o n x)
    (hg : ∀ i, i < n → ∀ W, Below w.heap.size w W → Calls Try.prog 87 #[.agg #[.int .i64 (x i).b0, .int .i64 (x i).b1, .int .i64 (x i).w0, .int .i64 (x i).w1, .int .i64 (x i).q0, .int .i64 (x i).q1, .int .i64 (x i).s0, .int .i64 (x i).s1], p1, p2] W fun e w' => e = .returned (.bool (g i)) ∧ Below W.heap.size W w') :
    Calls Try.prog 86 #[.slice (some ⟨b, o, none⟩) n cap, .func (.func 87) #[] #[p1, p2]] w fun e w' => e = .returned (.int .i64 (firstI g 0 n)) ∧ Below w.heap.size w w' := by
  have HC : Hid _ := hc
  have HG : Hid _ := hg
  clear hc hg
  go_enter Try.func86, Try.ntmps86
  go_wp2_with fail
  go_loopw [9] (fun i wr => ∃ k : Nat, k ≤ n ∧ i = .int .i64 k ∧ firstI g 0 n = firstI g k (n - k) ∧ Below w.heap.size w wr) (fun i _ => n - (intOf i).toNat)
  case atStart => exact ⟨0, Nat.zero_le _, rfl, rfl, Below.refl _ _⟩
  case round =>
    obtain ⟨k, hk, rfl, hd, hB⟩ := hrel
    have HD : Hid _ := hd
    clear hd
    by_cases hlt2 : k < n
    · obtain ⟨a0, a1, a2, a3, a4, a5, a6, a7⟩ := HC.out k hlt2
      replace a0 := cell_later hB a0
      replace a1 := cell_later hB a1
      replace a2 := cell_later hB a2
      replace a3 := cell_later hB a3
      replace a4 := cell_later hB a4
      replace a5 := cell_later hB a5
      replace a6 := cell_later hB a6
      replace a7 := cell_later hB a7
      have hbs := World.block_lt_of_cell? _ _ a0
      have hws : w.heap.size ≤ wr.heap.size := hB.size
      have HY : Hid (∀ _ : g k = true, Hid _) := fun h => firstI_yes g n k hlt2 h
      have HN : Hid (∀ _ : g k = false, Hid _) := fun h => firstI_no g n k hlt2 h
      have HK := Lib.hid (HG.out k hlt2)
      go_wp2_with fail
      refine (HK.out _ (by (repeat (first | exact Below.refl _ _ | assumption | refine Below.drew ?_ | refine Below.drewN ?_ _ | refine blT ?_ | refine blU ?_)))).mono ?_
      rintro e w2 ⟨rfl, hb2⟩
      have hBB : Below w.heap.size w w2 := bwS (by (repeat (first | exact Below.refl _ _ | assumption | refine Below.drew ?_ | refine Below.drewN ?_ _ | refine blT ?_ | refine blU ?_))) (by first | (simp; done) | (simp; omega)) hb2
      clear hb2
      cases hy : g k with
      | true =>
        have H0 := HY.out hy
        go_wp2
        go_ret
        exact ⟨by rw [HD.out, H0.out]; rfl, hBB⟩
      | false =>
        have H0 := HN.out hy
        go_wp2
        go_roundw
        case rel => exact ⟨k + 1, by omega, by go_num, by rw [HD.out, H0.out], hBB⟩
        case measure => simp [intOf]; omega
    · go_wp2
      go_ret
      have : n - k = 0 := by omega
      exact ⟨by rw [HD.out, this]; rfl, hB⟩
set_option maxRecDepth 100000 in
set_option maxHeartbeats 2000000 in
theorem first2_some (p1 p2 : Value) (b o n cap : Nat) (x : Nat → Ic) (g : Nat → Bool) (w : World) (hn : n ≤ 1000000) (hc : IcesAt w b o n x)
    (hg : ∀ i, i < n → ∀ W, Below w.heap.size w W → Calls Try.prog 88 #[.agg #[.int .i64 (x i).b0, .int .i64 (x i).b1, .int .i64 (x i).w0, .int .i64 (x i).w1, .int .i64 (x i).q0, .int .i64 (x i).q1, .int .i64 (x i).s0, .int .i64 (x i).s1], p1, p2] W fun e w' => e = .returned (.bool (g i)) ∧ Below W.heap.size W w') :
    Calls Try.prog 86 #[.slice (some ⟨b, o, none⟩) n cap, .func (.func 88) #[] #[p1, p2]] w fun e w' => e = .returned (.int .i64 (firstI g 0 n)) ∧ Below w.heap.size w w' := by
  have HC : Hid _ := hc
  have HG : Hid _ := hg
  clear hc hg
  go_enter Try.func86, Try.ntmps86
  go_wp2_with fail
  go_loopw [9] (fun i wr => ∃ k : Nat, k ≤ n ∧ i = .int .i64 k ∧ firstI g 0 n = firstI g k (n - k) ∧ Below w.heap.size w wr) (fun i _ => n - (intOf i).toNat)
  case atStart => exact ⟨0, Nat.zero_le _, rfl, rfl, Below.refl _ _⟩
  case round =>
    obtain ⟨k, hk, rfl, hd, hB⟩ := hrel
    have HD : Hid _ := hd
    clear hd
    by_cases hlt2 : k < n
    · obtain ⟨a0, a1, a2, a3, a4, a5, a6, a7⟩ := HC.out k hlt2
      replace a0 := cell_later hB a0
      replace a1 := cell_later hB a1
      replace a2 := cell_later hB a2
      replace a3 := cell_later hB a3
      replace a4 := cell_later hB a4
      replace a5 := cell_later hB a5
      replace a6 := cell_later hB a6
      replace a7 := cell_later hB a7
      have hbs := World.block_lt_of_cell? _ _ a0
      have hws : w.heap.size ≤ wr.heap.size := hB.size
      have HY : Hid (∀ _ : g k = true, Hid _) := fun h => firstI_yes g n k hlt2 h
      have HN : Hid (∀ _ : g k = false, Hid _) := fun h => firstI_no g n k hlt2 h
      have HK := Lib.hid (HG.out k hlt2)
      go_wp2_with fail
      refine (HK.out _ (by (repeat (first | exact Below.refl _ _ | assumption | refine Below.drew ?_ | refine Below.drewN ?_ _ | refine blT ?_ | refine blU ?_)))).mono ?_
      rintro e w2 ⟨rfl, hb2⟩
      have hBB : Below w.heap.size w w2 := bwS (by (repeat (first | exact Below.refl _ _ | assumption | refine Below.drew ?_ | refine Below.drewN ?_ _ | refine blT ?_ | refine blU ?_))) (by first | (simp; done) | (simp; omega)) hb2
      clear hb2
      cases hy : g k with
      | true =>
        have H0 := HY.out hy
        go_wp2
        go_ret
        exact ⟨by rw [HD.out, H0.out]; rfl, hBB⟩
      | false =>
        have H0 := HN.out hy
        go_wp2
        go_roundw
        case rel => exact ⟨k + 1, by omega, by go_num, by rw [HD.out, H0.out], hBB⟩
        case measure => simp [intOf]; omega
    · go_wp2
      go_ret
      have : n - k = 0 := by omega
      exact ⟨by rw [HD.out, this]; rfl, hB⟩
end Go.Proofs.Ytoobgjigfmnnaaa

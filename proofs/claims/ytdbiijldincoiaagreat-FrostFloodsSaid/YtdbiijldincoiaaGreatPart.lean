/-
  The parts of cold that snow lets through; rates; water that freezes (package frost): contracts of part, shares, frozen, low, high.
-/
import Derived.Test.YtdbiijldincoiaaGreatTail
import Derived.Test.YtdbiijldincoiaaGreatAll
import Derived.Test.YtdbiijldincoiaaGreatRoot
import Derived.Test.YtdbiijldincoiaaGreatBlk
set_option linter.unusedVariables false
set_option linter.unusedSimpArgs false
namespace Go.Proofs.YtdbiijldincoiaaGreat
open Go.RowKit

def lastP (D P : Nat → Int) (s : Int) : Nat → Int
  | 0 => P 0
  | k + 1 => if D k ≤ s then P k else lastP D P s k

theorem low_any (a b : Int) (w : World) :
    Calls Tryz.prog 110 #[.agg #[.int .i64 a, .int .i64 b]] w fun e w' => e = .returned (.int .i64 a) ∧ Below w.heap.size w w' := by
  go_enter Tryz.func110, Tryz.ntmps110
  go_wp2
  go_ret
  exact ⟨rfl, by (go_split_ands; first | assumption | (repeat (first | exact Below.refl _ _ | assumption | refine Below.drew ?_ | refine Below.drewN ?_ _ | refine blT ?_ | refine blU ?_)))⟩

theorem high_any (a b : Int) (w : World) :
    Calls Tryz.prog 111 #[.agg #[.int .i64 a, .int .i64 b]] w fun e w' => e = .returned (.int .i64 b) ∧ Below w.heap.size w w' := by
  go_enter Tryz.func111, Tryz.ntmps111
  go_wp2
  go_ret
  exact ⟨rfl, by (go_split_ands; first | assumption | (repeat (first | exact Below.refl _ _ | assumption | refine Below.drew ?_ | refine Below.drewN ?_ _ | refine blT ?_ | refine blU ?_)))⟩

theorem shares_any (a b r s : Int) (w : World) (h1 : 0 ≤ a * r) (h2 : a * r ≤ 9000000000000000000) (h3 : 0 ≤ b * s) (h4 : b * s ≤ 9000000000000000000) :
    Calls Tryz.prog 71 #[.agg #[.int .i64 a, .int .i64 b], .agg #[.int .i64 r, .int .i64 s]] w fun e w' => e = .returned (.agg #[.int .i64 (a*r/1000000), .int .i64 ((b*s+999999)/1000000)]) ∧ Below w.heap.size w w' := by
  go_enter Tryz.func71, Tryz.ntmps71
  go_wp2
  refine bodyPost_ret (v := .agg #[.int .i64 (a*r/1000000), .int .i64 ((b*s+999999)/1000000)]) (by simp [results, Tryz.results71, go_sem]; omega) rfl ⟨rfl, by (go_split_ands; first | assumption | (repeat (first | exact Below.refl _ _ | assumption | refine Below.drew ?_ | refine Below.drewN ?_ _ | refine blT ?_ | refine blU ?_)))⟩

theorem frozen_any (gr la : Int) (v : Value) (m0 m1 so h0 h1 : Int) (q c : Int) (w : World) (hv : ∃ a n cap, v = .slice a n cap) (hla : 1 ≤ la) (hc : 0 ≤ c) (hc2 : c ≤ 9223372036854775807) :
    Calls Tryz.prog 103 #[.agg #[.int .i64 gr, .int .i64 la, v, .int .i64 m0, .int .i64 m1, .int .i64 so, .int .i64 h0, .int .i64 h1], .int .i64 q, .int .i64 c] w fun e w' => e = .returned (.int .i64 (min q (c / la))) ∧ Below w.heap.size w w' := by
  obtain ⟨a, n, cap, rfl⟩ := hv
  go_enter Tryz.func103, Tryz.ntmps103
  go_wp2
  go_ret
  exact ⟨rfl, by (repeat (first | exact Below.refl _ _ | assumption | refine Below.drew ?_ | refine Below.drewN ?_ _ | refine blT ?_ | refine blU ?_))⟩

set_option maxHeartbeats 1000000 in
theorem part_some (b o n cap : Nat) (D P0 P1 : Nat → Int) (s : Int) (w : World) (h1 : 1 ≤ n) (hn : n ≤ 9223372036854775807)
    (hc : ∀ i, i < n → w.cell? ⟨b, o + i * 3, none⟩ = some (.int .i64 (D i)) ∧ w.cell? ⟨b, o + i * 3 + 1, none⟩ = some (.int .i64 (P0 i)) ∧ w.cell? ⟨b, o + i * 3 + 2, none⟩ = some (.int .i64 (P1 i))) :
    Calls Tryz.prog 113 #[.slice (some ⟨b, o, none⟩) n cap, .int .i64 s] w fun e w' => e = .returned (.agg #[.int .i64 (lastP D P0 s n), .int .i64 (lastP D P1 s n)]) ∧ Below w.heap.size w w' := by
  have hz : 0 < n := by omega
  obtain ⟨c0, c1, c2⟩ := hc 0 (by omega)
  simp only [Nat.zero_mul, Nat.add_zero] at c0 c1 c2
  have hlt := World.block_lt_of_cell? _ _ c0
  have HC : Hid _ := hc
  clear hc
  go_enter Tryz.func113, Tryz.ntmps113
  go_wp2
  have hk4 : Blk ((w.alloc (.cells #[.int .i64 0, .int .i64 0] 24)).alloc (.cells #[.int .i64 (P0 0), .int .i64 (P1 0)] 24)) w.heap.size #[.int .i64 0, .int .i64 0] 24 := (Blk.new _ _ _).alloc _
  have hk5 : Blk ((w.alloc (.cells #[.int .i64 0, .int .i64 0] 24)).alloc (.cells #[.int .i64 (P0 0), .int .i64 (P1 0)] 24)) (w.heap.size + 1) #[.int .i64 (P0 0), .int .i64 (P1 0)] 24 := by
    have := Blk.new (w.alloc (.cells #[.int .i64 0, .int .i64 0] 24)) #[.int .i64 (P0 0), .int .i64 (P1 0)] 24
    simpa using this
  go_loopw [14] (fun i wr => ∃ k : Nat, k ≤ n ∧ i = .int .i64 k ∧ Blk wr w.heap.size #[.int .i64 0, .int .i64 0] 24 ∧ Blk wr (w.heap.size + 1) #[.int .i64 (lastP D P0 s k), .int .i64 (lastP D P1 s k)] 24 ∧ Below w.heap.size w wr) (fun i _ => n - (intOf i).toNat)
  case atStart => exact ⟨0, Nat.zero_le _, rfl, hk4, hk5, by (repeat (first | exact Below.refl _ _ | assumption | refine Below.drew ?_ | refine Below.drewN ?_ _ | refine blT ?_ | refine blU ?_))⟩
  case round =>
    obtain ⟨k, hk, rfl, g4, g5, hB⟩ := hrel
    clear c0 c1 c2 hk4 hk5
    have e0 : wr.cell? ⟨w.heap.size, 0, none⟩ = some (.int .i64 0) := g4.cell 0 rfl
    have e1 : wr.cell? ⟨w.heap.size, 1, none⟩ = some (.int .i64 0) := g4.cell 1 rfl
    have e2 : wr.cell? ⟨w.heap.size + 1, 0, none⟩ = some (.int .i64 (lastP D P0 s k)) := g5.cell 0 rfl
    have e3 : wr.cell? ⟨w.heap.size + 1, 1, none⟩ = some (.int .i64 (lastP D P1 s k)) := g5.cell 1 rfl
    have f0 := g4.free 0
    have f1 := g4.free 1
    have f2 := g5.free 0
    have f3 := g5.free 1
    by_cases hlt2 : k < n
    · obtain ⟨a0, a1, a2⟩ := HC.out k (by omega)
      replace a0 := cell_later hB a0
      replace a1 := cell_later hB a1
      replace a2 := cell_later hB a2
      have hbs := World.block_lt_of_cell? _ _ a0
      have hws : w.heap.size ≤ wr.heap.size := hB.size
      have hws1 : w.heap.size + 1 < wr.heap.size := World.block_lt_of_cell? _ _ e2
      have L0 : Hid (lastP D P0 s (k + 1) = if D k ≤ s then P0 k else lastP D P0 s k) := rfl
      have L1 : Hid (lastP D P1 s (k + 1) = if D k ≤ s then P1 k else lastP D P1 s k) := rfl
      by_cases hd : D k ≤ s
      · go_wp2
        go_roundw
        case rel => 
          refine ⟨k + 1, by omega, by go_num, ?_⟩
          rw [L0.out, L1.out, if_pos hd, if_pos hd]
          exact ⟨((g4.other _ _ (by simp)).other _ _ (by simp)).alloc _, ((g5.set 0 _).set 1 _).alloc _, by (repeat (first | exact Below.refl _ _ | assumption | refine Below.drew ?_ | refine Below.drewN ?_ _ | refine blT ?_ | refine blU ?_))⟩
        case measure => simp [intOf]; omega
      · go_wp2
        go_roundw
        case rel => 
          refine ⟨k + 1, by omega, by go_num, ?_⟩
          rw [L0.out, L1.out, if_neg hd, if_neg hd]
          exact ⟨g4.alloc _, g5.alloc _, by (repeat (first | exact Below.refl _ _ | assumption | refine Below.drew ?_ | refine Below.drewN ?_ _ | refine blT ?_ | refine blU ?_))⟩
        case measure => simp [intOf]; omega
    · obtain rfl : k = n := by omega
      have hf := (g4.set 0 (.int .i64 (lastP D P0 s k))).set 1 (.int .i64 (lastP D P1 s k))
      have q0 : ((wr.setCell ⟨w.heap.size, 0, none⟩ (.int .i64 (lastP D P0 s k))).setCell ⟨w.heap.size, 1, none⟩ (.int .i64 (lastP D P1 s k))).cell? ⟨w.heap.size, 0, none⟩ = some (.int .i64 (lastP D P0 s k)) := hf.cell 0 rfl
      have q1 : ((wr.setCell ⟨w.heap.size, 0, none⟩ (.int .i64 (lastP D P0 s k))).setCell ⟨w.heap.size, 1, none⟩ (.int .i64 (lastP D P1 s k))).cell? ⟨w.heap.size, 1, none⟩ = some (.int .i64 (lastP D P1 s k)) := hf.cell 1 rfl
      have Q0 := Lib.hid q0
      have Q1 := Lib.hid q1
      clear q0 q1
      go_wp2
      refine bodyPost_ret (v := .agg #[.int .i64 (lastP D P0 s k), .int .i64 (lastP D P1 s k)]) (by simp [results, Tryz.results113, go_sem, Q0.out, Q1.out]) rfl ⟨rfl, by (repeat (first | exact Below.refl _ _ | assumption | refine Below.drew ?_ | refine Below.drewN ?_ _ | refine blT ?_ | refine blU ?_))⟩
end Go.Proofs.YtdbiijldincoiaaGreat

/-
  The ends of a span; the part of a table (package bear).
-/
import Derived.Test.YtkkljbbgaogifaaTail
import Derived.Test.YtkkljbbgaogifaaMean
import Derived.Test.YtkkljbbgaogifaaField
set_option linter.unusedVariables false
set_option linter.unusedSimpArgs false
namespace Go.Proofs.Ytkkljbbgaogifaa
open Go.RowKit

theorem more_any (b : Bool) (lo hi : Int) (w : World) :
    Calls Try.prog 139 #[.agg #[.bool b], .agg #[.int .i64 lo, .int .i64 hi]] w fun e w' => e = .returned (.int .i64 (endV b lo hi)) ∧ Below w.heap.size w w' := by
  cases b
  · go_enter Try.func139, Try.ntmps139
    go_wp2
    go_ret
    exact ⟨rfl, by (repeat (first | exact Below.refl _ _ | assumption | refine Below.drew ?_ | refine Below.drewN ?_ _ | refine blT ?_ | refine blU ?_))⟩
  · go_enter Try.func139, Try.ntmps139
    go_wp2
    go_ret
    exact ⟨rfl, by (repeat (first | exact Below.refl _ _ | assumption | refine Below.drew ?_ | refine Below.drewN ?_ _ | refine blT ?_ | refine blU ?_))⟩
theorem less_any (b : Bool) (lo hi : Int) (w : World) :
    Calls Try.prog 151 #[.agg #[.bool b], .agg #[.int .i64 lo, .int .i64 hi]] w fun e w' => e = .returned (.int .i64 (endV (!b) lo hi)) ∧ Below w.heap.size w w' := by
  cases b
  · go_enter Try.func151, Try.ntmps151
    go_wp2
    go_ret
    exact ⟨rfl, by (repeat (first | exact Below.refl _ _ | assumption | refine Below.drew ?_ | refine Below.drewN ?_ _ | refine blT ?_ | refine blU ?_))⟩
  · go_enter Try.func151, Try.ntmps151
    go_wp2
    go_ret
    exact ⟨rfl, by (repeat (first | exact Below.refl _ _ | assumption | refine Below.drew ?_ | refine Below.drewN ?_ _ | refine blT ?_ | refine blU ?_))⟩
theorem pfrom_any (f p : Int) (w : World) :
    Calls Try.prog 150 #[.agg #[.int .i64 f, .int .i64 p]] w fun e w' => e = .returned (.int .i64 f) ∧ Below w.heap.size w w' := by
  go_enter Try.func150, Try.ntmps150
  go_wp2
  go_ret
  exact ⟨rfl, by (repeat (first | exact Below.refl _ _ | assumption | refine Below.drew ?_ | refine Below.drewN ?_ _ | refine blT ?_ | refine blU ?_))⟩

set_option maxHeartbeats 2000000 in
theorem upto_any (v : Value) (t : Tab) (ht : t.Ok) (n : Int) (hn : 0 ≤ n) (w : World) (hv : TabAt w v t) :
    Calls Try.prog 149 #[v, .int .i64 n, .func (.func 150) #[] #[]] w fun e w' => ∃ f, e = .returned (.agg #[.int .i64 f, .int .i64 (t.val n)]) ∧ Below w.heap.size w w' := by
  obtain ⟨a, cap, rfl, hcap, hm, h3⟩ := hv
  have hn1 := ht.n1
  obtain ⟨b, o, rfl, hc⟩ := h3 (by omega)
  obtain ⟨c0, c1⟩ := hc 0 (by omega)
  simp only [Nat.zero_mul, Nat.add_zero] at c0 c1
  have hlt := World.block_lt_of_cell? _ _ c0
  have HC := Lib.hid hc
  clear hc h3
  by_cases hn2 : t.n = 1
  · have HV := Lib.hid (ht.val_eq (n := n) (k := 0) (by omega) (by rw [ht.f0]; exact hn) (fun h => by omega))
    rw [hn2] at hcap ⊢
    go_enter Try.func149, Try.ntmps149
    go_wp2_with fail
    all_goals
      refine wp_loop_rounds 1 ?_
      rw [rounds_succ]
      go_wp2
      exact bodyPost_ret (v := .agg #[.int .i64 (t.F 0), .int .i64 (t.val n)]) (by simp [results, Try.results149, go_sem, HV.out]) rfl ⟨t.F 0, rfl, by (go_split_ands; first | assumption | (repeat (first | exact Below.refl _ _ | assumption | refine Below.drew ?_ | refine Below.drewN ?_ _ | refine blT ?_ | refine blU ?_)))⟩
  have hcp : (cap = 1) = False := by simp; omega
  go_enter Try.func149, Try.ntmps149
  have jR : Two (w.alloc (.cells #[.int .i64 0, .int .i64 0] 68)) w.heap.size 68 := ⟨_, _, Blk.new _ _ _⟩
  go_wp2_with fail
  go_loopw [16] (fun i wr => ∃ k : Nat, k + 1 ≤ t.n ∧ i = .int .i64 k ∧ t.F k ≤ n ∧ Blk wr (w.heap.size + 1) #[.int .i64 (t.F k), .int .i64 (t.P k)] 68 ∧ Two wr w.heap.size 68 ∧ Below w.heap.size w wr) (fun i _ => (t.n - 1) - (intOf i).toNat)
  case atStart =>
    exact ⟨0, by omega, rfl, by rw [ht.f0]; exact hn, Blk.new1 _ _ _ _, jR.alloc _, by (go_split_ands; first | assumption | (repeat (first | exact Below.refl _ _ | assumption | refine Below.drew ?_ | refine Below.drewN ?_ _ | refine blT ?_ | refine blU ?_)))⟩
  case round =>
    obtain ⟨k, hk, rfl, hF, jL, jR, hB⟩ := hrel
    by_cases hlt2 : k + 1 < t.n
    · obtain ⟨a0, a1⟩ := HC.out (k + 1) hlt2
      rw [show o + (k + 1) * 2 = o + 2 + k * 2 by omega] at a0 a1
      replace a0 := cell_later hB a0
      replace a1 := cell_later hB a1
      have hbs := World.block_lt_of_cell? _ _ a0
      have hws : w.heap.size ≤ wr.heap.size := hB.size
      have zL := jL.lt
      have HV : Hid (n < t.F (k + 1) → t.val n = t.P k) := fun h => ht.val_eq (by omega) hF (fun _ => h)
      clear c0 c1
      have hlt3 : (k : Int) < ((t.n - 1 : Nat) : Int) := by omega
      go_wp2_with fail
      refine (pfrom_any _ _ _).mono ?_
      rintro e w2 ⟨rfl, hb⟩
      have kL := (jL.alloc (.cells #[.int .i64 (t.F (k + 1)), .int .i64 (t.P (k + 1))] 68)).call hb
      have kR := (jR.alloc (.cells #[.int .i64 (t.F (k + 1)), .int .i64 (t.P (k + 1))] 68)).call hb
      have kX := (Blk.new wr #[.int .i64 (t.F (k + 1)), .int .i64 (t.P (k + 1))] 68).call hb
      have kB : Below w.heap.size w w2 := bwS (bwA hB (Nat.le_refl _) _) (Nat.le_refl _) hb
      clear hb jL jR hB a0 a1
      obtain ⟨l0, l1⟩ := kL.c2
      obtain ⟨x0, x1⟩ := kX.c2
      have zX := kX.lt
      have f0 := kL.free 0
      have f1 := kL.free 1
      by_cases hgt : n < t.F (k + 1)
      · have HW := Lib.hid (HV.out hgt)
        have kRR := kR
        obtain ⟨r0, r1, kRR⟩ := kRR
        obtain ⟨c0, c1⟩ := kRR.c2
        have g0 := kRR.free 0
        have g1 := kRR.free 1
        have zR := kRR.lt
        have HS := Lib.hid ((kRR.set 0 (.int .i64 (t.F k))).set 1 (.int .i64 (t.P k))).c2
        go_wp2
        obtain ⟨z0, z1⟩ := HS.out
        exact bodyPost_ret (v := .agg #[.int .i64 (t.F k), .int .i64 (t.P k)]) (by simp [results, Try.results149, go_sem, z0, z1]) rfl ⟨t.F k, by rw [HW.out], by (go_split_ands; first | assumption | (repeat (first | exact Below.refl _ _ | assumption | refine Below.drew ?_ | refine Below.drewN ?_ _ | refine blT ?_ | refine blU ?_)))⟩
      · have kL2 : Blk _ _ #[.int .i64 (t.F (k + 1)), .int .i64 (t.P (k + 1))] _ := (kL.set 0 (.int .i64 (t.F (k + 1)))).set 1 (.int .i64 (t.P (k + 1)))
        obtain ⟨x, y, q⟩ := kR
        have kR2 := (q.other ⟨w.heap.size + 1, 0, none⟩ (.int .i64 (t.F (k + 1))) (by simp)).other ⟨w.heap.size + 1, 1, none⟩ (.int .i64 (t.P (k + 1))) (by simp)
        have kB2 : Below w.heap.size w ((w2.setCell ⟨w.heap.size + 1, 0, none⟩ (.int .i64 (t.F (k + 1)))).setCell ⟨w.heap.size + 1, 1, none⟩ (.int .i64 (t.P (k + 1)))) := (kB.setCell (by simp) _).setCell (by simp) _
        have HF := Lib.hid (show t.F (k + 1) ≤ n by omega)
        go_wp2
        go_roundw
        case rel => exact ⟨k + 1, by omega, by go_num, HF.out, kL2, ⟨_, _, kR2⟩, kB2⟩
        case measure => simp [intOf]; omega
    · have HW := Lib.hid (ht.val_eq (n := n) (k := k) (by omega) hF (fun h => by omega))
      obtain ⟨l0, l1⟩ := jL.c2
      have zL := jL.lt
      obtain ⟨r0, r1, kRR⟩ := jR
      obtain ⟨d0, d1⟩ := kRR.c2
      have g0 := kRR.free 0
      have g1 := kRR.free 1
      have zR := kRR.lt
      have HS := Lib.hid ((kRR.set 0 (.int .i64 (t.F k))).set 1 (.int .i64 (t.P k))).c2
      have hlt4 : ¬ (k : Int) < ((t.n - 1 : Nat) : Int) := by omega
      clear c0 c1
      go_wp2
      obtain ⟨z0, z1⟩ := HS.out
      exact bodyPost_ret (v := .agg #[.int .i64 (t.F k), .int .i64 (t.P k)]) (by simp [results, Try.results149, go_sem, z0, z1]) rfl ⟨⟨t.F k, by rw [HW.out]⟩, by (go_split_ands; first | assumption | (repeat (first | exact Below.refl _ _ | assumption | refine Below.drew ?_ | refine Below.drewN ?_ _ | refine blT ?_ | refine blU ?_)))⟩

@[go_sem, simp] theorem share_snd (x y : Value) (w : World) : Sem.run Try.prog (Instr.field 68 (.agg #[x, y]) 1) w = .ok y w := by kernel_rfl
theorem part_any (v : Value) (t : Tab) (ht : t.Ok) (n : Int) (hn : 0 ≤ n) (w : World) (hv : TabAt w v t) :
    Calls Try.prog 140 #[v, .int .i64 n] w fun e w' => e = .returned (.int .i64 (t.val n)) ∧ Below w.heap.size w w' := by
  have H := Lib.hid (upto_any v t ht n hn w hv)
  go_enter Try.func140, Try.ntmps140
  go_wp2_with fail
  refine H.out.mono ?_
  rintro e w' ⟨f, rfl, hb⟩
  go_wp2
  go_ret
  exact ⟨rfl, hb⟩
end Go.Proofs.Ytkkljbbgaogifaa

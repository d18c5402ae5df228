/-
  The cold that gets through snow: contracts of frost.through and its closure, and of frost.ends at it.
-/
import Derived.Test.YtdbiijldincoiaaGreatTail
import Derived.Test.YtdbiijldincoiaaGreatPart
set_option linter.unusedVariables false
set_option linter.unusedSimpArgs false
namespace Go.Proofs.YtdbiijldincoiaaGreat
open Go.RowKit

theorem part_any (v : Value) (n : Nat) (D P0 P1 : Nat → Int) (s : Int) (w : World) (h1 : 1 ≤ n) (hv : CovAt w v n D P0 P1) :
    Calls Tryz.prog 113 #[v, .int .i64 s] w fun e w' => e = .returned (.agg #[.int .i64 (lastP D P0 s n), .int .i64 (lastP D P1 s n)]) ∧ Below w.heap.size w w' := by
  obtain ⟨a, cap, rfl, h2, h3, h4⟩ := hv
  obtain ⟨b, o, rfl, hc⟩ := h4 (by omega)
  exact part_some b o n cap D P0 P1 s w h1 (by omega) hc

set_option maxHeartbeats 1000000 in
theorem thru1_lo (a : Option Addr) (n cap : Nat) (D P0 P1 : Nat → Int) (s0 s1 : Int) (bc bd : Nat) (w : World) (h1 : 1 ≤ n) (hv : CovAt w (.slice a n cap) n D P0 P1)
    (k0 : w.cell? ⟨bc, 0, none⟩ = some (.slice a n cap)) (k1 : w.cell? ⟨bd, 0, none⟩ = some (.int .i64 s0)) (k2 : w.cell? ⟨bd, 1, none⟩ = some (.int .i64 s1)) :
    Calls Tryz.prog 112 #[.func (.func 110) #[] #[], .func (.func 111) #[] #[], .pointer (some ⟨bc, 0, none⟩), .pointer (some ⟨bd, 0, none⟩)] w
      fun e w' => e = .returned (.int .i64 (lastP D P0 s1 n)) ∧ Below w.heap.size w w' := by
  have hP : ∀ W, Below w.heap.size w W → Calls Tryz.prog 113 #[.slice a n cap, .int .i64 s1] W fun e w' => e = .returned (.agg #[.int .i64 (lastP D P0 s1 n), .int .i64 (lastP D P1 s1 n)]) ∧ Below W.heap.size W w' := fun W h => part_any _ n D P0 P1 s1 W h1 (hv.later h)
  have HP := Lib.hid hP
  clear hP hv
  go_enter Tryz.func112, Tryz.ntmps112
  go_wp2_with fail
  refine wp_region_held_drew (S := (fun w' => w'.cell? ⟨bc, 0, none⟩ = some (.slice a n cap) ∧ w'.cell? ⟨bd, 0, none⟩ = some (.int .i64 s0) ∧ w'.cell? ⟨bd, 1, none⟩ = some (.int .i64 s1) ∧ Below w.heap.size w w')) (by kernel_rfl) ?_ (fun hH => ?_)
  · (try dsimp only); (go_split_ands; refine ⟨?_, ?_, ?_, ?_⟩ <;> (first | assumption | (go_simp; done) | (go_keep; done) | (refine cell_later hb ?_; first | assumption | (go_keep; done)) | (refine bwS ?_ ?_ hb; (first | assumption | ((repeat (first | exact Below.refl _ _ | assumption | refine Below.drew ?_ | refine Below.drewN ?_ _ | refine blT ?_ | refine blU ?_)); done)); (first | exact Nat.le_refl _ | (simp; done) | (simp; omega))) | ((repeat (first | exact Below.refl _ _ | assumption | refine Below.drew ?_ | refine Below.drewN ?_ _ | refine blT ?_ | refine blU ?_)); done)))
  refine tkY 0 (some 7) ?_ ?_ ?_
  rotate_left
  · intro w _; go_simp; (try with_reducible rfl)
  (try simp only [cq])
  refine tkY 1 (some 8) ?_ ?_ ?_
  rotate_left
  · intro w hS0; go_simp; (try with_reducible rfl)
  (try simp only [cq])
  refine tkY 2 (some 9) ?_ ?_ ?_
  rotate_left
  · intro w _; go_simp; (try with_reducible rfl)
  (try simp only [cq])
  refine tkY 3 (some 10) ?_ ?_ ?_
  rotate_left
  · intro w hS0; go_simp; (try with_reducible rfl)
  (try simp only [cq])
  refine wpAnyH_ready (rs := [4]) (by kernel_rfl) (by simp) ?_
  refine arc1 (some 11) fun K hK => ?_
  go_simp
  (refine (high_any _ _ _).mono ?_; rintro e w' ⟨rfl, hb⟩)
  refine hK.out _ _ ?_ (fun hH => ?_)
  · (go_split_ands; refine ⟨?_, ?_, ?_, ?_⟩ <;> (first | assumption | (go_simp; done) | (go_keep; done) | (refine cell_later hb ?_; first | assumption | (go_keep; done)) | (refine bwS ?_ ?_ hb; (first | assumption | ((repeat (first | exact Below.refl _ _ | assumption | refine Below.drew ?_ | refine Below.drewN ?_ _ | refine blT ?_ | refine blU ?_)); done)); (first | exact Nat.le_refl _ | (simp; done) | (simp; omega))) | ((repeat (first | exact Below.refl _ _ | assumption | refine Below.drew ?_ | refine Below.drewN ?_ _ | refine blT ?_ | refine blU ?_)); done)))
  clear hK K
  (try simp only [cq])
  refine wpAnyH_ready (rs := [5]) (by kernel_rfl) (by simp) ?_
  refine arc1 (some 12) fun K hK => ?_
  go_simp
  (refine (HP.out _ ?_).mono ?_; (exact hH.2.2.2); rintro e w' ⟨rfl, hb⟩)
  refine hK.out _ _ ?_ (fun hH => ?_)
  · (go_split_ands; refine ⟨?_, ?_, ?_, ?_⟩ <;> (first | assumption | (go_simp; done) | (go_keep; done) | (refine cell_later hb ?_; first | assumption | (go_keep; done)) | (refine bwS ?_ ?_ hb; (first | assumption | ((repeat (first | exact Below.refl _ _ | assumption | refine Below.drew ?_ | refine Below.drewN ?_ _ | refine blT ?_ | refine blU ?_)); done)); (first | exact Nat.le_refl _ | (simp; done) | (simp; omega))) | ((repeat (first | exact Below.refl _ _ | assumption | refine Below.drew ?_ | refine Below.drewN ?_ _ | refine blT ?_ | refine blU ?_)); done)))
  clear hK K
  (try simp only [cq])
  refine wpAnyH_ready (rs := [6]) (by kernel_rfl) (by simp) ?_
  refine arc1 (some 13) fun K hK => ?_
  go_simp
  (refine (low_any _ _ _).mono ?_; rintro e w' ⟨rfl, hb⟩)
  refine hK.out _ _ ?_ (fun hH => ?_)
  · (go_split_ands; refine ⟨?_, ?_, ?_, ?_⟩ <;> (first | assumption | (go_simp; done) | (go_keep; done) | (refine cell_later hb ?_; first | assumption | (go_keep; done)) | (refine bwS ?_ ?_ hb; (first | assumption | ((repeat (first | exact Below.refl _ _ | assumption | refine Below.drew ?_ | refine Below.drewN ?_ _ | refine blT ?_ | refine blU ?_)); done)); (first | exact Nat.le_refl _ | (simp; done) | (simp; omega))) | ((repeat (first | exact Below.refl _ _ | assumption | refine Below.drew ?_ | refine Below.drewN ?_ _ | refine blT ?_ | refine blU ?_)); done)))
  clear hK K
  (try simp only [cq])
  refine tkY 7 (some 6) ?_ ?_ ?_
  rotate_left
  · intro w _; go_simp; (try with_reducible rfl)
  (try simp only [cq])
  refine wpAnyH_done (by kernel_rfl) ?_ _
  (try dsimp only [Act.put])
  (try simp only [cq])
  have hBB : Below w.heap.size w _ := hH.2.2.2
  clear hH
  go_wp2
  go_ret
  exact ⟨rfl, hBB⟩
set_option maxHeartbeats 1000000 in
theorem thru1_hi (a : Option Addr) (n cap : Nat) (D P0 P1 : Nat → Int) (s0 s1 : Int) (bc bd : Nat) (w : World) (h1 : 1 ≤ n) (hv : CovAt w (.slice a n cap) n D P0 P1)
    (k0 : w.cell? ⟨bc, 0, none⟩ = some (.slice a n cap)) (k1 : w.cell? ⟨bd, 0, none⟩ = some (.int .i64 s0)) (k2 : w.cell? ⟨bd, 1, none⟩ = some (.int .i64 s1)) :
    Calls Tryz.prog 112 #[.func (.func 111) #[] #[], .func (.func 110) #[] #[], .pointer (some ⟨bc, 0, none⟩), .pointer (some ⟨bd, 0, none⟩)] w
      fun e w' => e = .returned (.int .i64 (lastP D P1 s0 n)) ∧ Below w.heap.size w w' := by
  have hP : ∀ W, Below w.heap.size w W → Calls Tryz.prog 113 #[.slice a n cap, .int .i64 s0] W fun e w' => e = .returned (.agg #[.int .i64 (lastP D P0 s0 n), .int .i64 (lastP D P1 s0 n)]) ∧ Below W.heap.size W w' := fun W h => part_any _ n D P0 P1 s0 W h1 (hv.later h)
  have HP := Lib.hid hP
  clear hP hv
  go_enter Tryz.func112, Tryz.ntmps112
  go_wp2_with fail
  refine wp_region_held_drew (S := (fun w' => w'.cell? ⟨bc, 0, none⟩ = some (.slice a n cap) ∧ w'.cell? ⟨bd, 0, none⟩ = some (.int .i64 s0) ∧ w'.cell? ⟨bd, 1, none⟩ = some (.int .i64 s1) ∧ Below w.heap.size w w')) (by kernel_rfl) ?_ (fun hH => ?_)
  · (try dsimp only); (go_split_ands; refine ⟨?_, ?_, ?_, ?_⟩ <;> (first | assumption | (go_simp; done) | (go_keep; done) | (refine cell_later hb ?_; first | assumption | (go_keep; done)) | (refine bwS ?_ ?_ hb; (first | assumption | ((repeat (first | exact Below.refl _ _ | assumption | refine Below.drew ?_ | refine Below.drewN ?_ _ | refine blT ?_ | refine blU ?_)); done)); (first | exact Nat.le_refl _ | (simp; done) | (simp; omega))) | ((repeat (first | exact Below.refl _ _ | assumption | refine Below.drew ?_ | refine Below.drewN ?_ _ | refine blT ?_ | refine blU ?_)); done)))
  refine tkY 0 (some 7) ?_ ?_ ?_
  rotate_left
  · intro w _; go_simp; (try with_reducible rfl)
  (try simp only [cq])
  refine tkY 1 (some 8) ?_ ?_ ?_
  rotate_left
  · intro w hS0; go_simp; (try with_reducible rfl)
  (try simp only [cq])
  refine tkY 2 (some 9) ?_ ?_ ?_
  rotate_left
  · intro w _; go_simp; (try with_reducible rfl)
  (try simp only [cq])
  refine tkY 3 (some 10) ?_ ?_ ?_
  rotate_left
  · intro w hS0; go_simp; (try with_reducible rfl)
  (try simp only [cq])
  refine wpAnyH_ready (rs := [4]) (by kernel_rfl) (by simp) ?_
  refine arc1 (some 11) fun K hK => ?_
  go_simp
  (refine (low_any _ _ _).mono ?_; rintro e w' ⟨rfl, hb⟩)
  refine hK.out _ _ ?_ (fun hH => ?_)
  · (go_split_ands; refine ⟨?_, ?_, ?_, ?_⟩ <;> (first | assumption | (go_simp; done) | (go_keep; done) | (refine cell_later hb ?_; first | assumption | (go_keep; done)) | (refine bwS ?_ ?_ hb; (first | assumption | ((repeat (first | exact Below.refl _ _ | assumption | refine Below.drew ?_ | refine Below.drewN ?_ _ | refine blT ?_ | refine blU ?_)); done)); (first | exact Nat.le_refl _ | (simp; done) | (simp; omega))) | ((repeat (first | exact Below.refl _ _ | assumption | refine Below.drew ?_ | refine Below.drewN ?_ _ | refine blT ?_ | refine blU ?_)); done)))
  clear hK K
  (try simp only [cq])
  refine wpAnyH_ready (rs := [5]) (by kernel_rfl) (by simp) ?_
  refine arc1 (some 12) fun K hK => ?_
  go_simp
  (refine (HP.out _ ?_).mono ?_; (exact hH.2.2.2); rintro e w' ⟨rfl, hb⟩)
  refine hK.out _ _ ?_ (fun hH => ?_)
  · (go_split_ands; refine ⟨?_, ?_, ?_, ?_⟩ <;> (first | assumption | (go_simp; done) | (go_keep; done) | (refine cell_later hb ?_; first | assumption | (go_keep; done)) | (refine bwS ?_ ?_ hb; (first | assumption | ((repeat (first | exact Below.refl _ _ | assumption | refine Below.drew ?_ | refine Below.drewN ?_ _ | refine blT ?_ | refine blU ?_)); done)); (first | exact Nat.le_refl _ | (simp; done) | (simp; omega))) | ((repeat (first | exact Below.refl _ _ | assumption | refine Below.drew ?_ | refine Below.drewN ?_ _ | refine blT ?_ | refine blU ?_)); done)))
  clear hK K
  (try simp only [cq])
  refine wpAnyH_ready (rs := [6]) (by kernel_rfl) (by simp) ?_
  refine arc1 (some 13) fun K hK => ?_
  go_simp
  (refine (high_any _ _ _).mono ?_; rintro e w' ⟨rfl, hb⟩)
  refine hK.out _ _ ?_ (fun hH => ?_)
  · (go_split_ands; refine ⟨?_, ?_, ?_, ?_⟩ <;> (first | assumption | (go_simp; done) | (go_keep; done) | (refine cell_later hb ?_; first | assumption | (go_keep; done)) | (refine bwS ?_ ?_ hb; (first | assumption | ((repeat (first | exact Below.refl _ _ | assumption | refine Below.drew ?_ | refine Below.drewN ?_ _ | refine blT ?_ | refine blU ?_)); done)); (first | exact Nat.le_refl _ | (simp; done) | (simp; omega))) | ((repeat (first | exact Below.refl _ _ | assumption | refine Below.drew ?_ | refine Below.drewN ?_ _ | refine blT ?_ | refine blU ?_)); done)))
  clear hK K
  (try simp only [cq])
  refine tkY 7 (some 6) ?_ ?_ ?_
  rotate_left
  · intro w _; go_simp; (try with_reducible rfl)
  (try simp only [cq])
  refine wpAnyH_done (by kernel_rfl) ?_ _
  (try dsimp only [Act.put])
  (try simp only [cq])
  have hBB : Below w.heap.size w _ := hH.2.2.2
  clear hH
  go_wp2
  go_ret
  exact ⟨rfl, hBB⟩

theorem ends_thru (bc bd : Nat) (x y : Int) (w : World) (hlo : ∀ W, Below w.heap.size w W → Calls Tryz.prog 112 #[.func (.func 110) #[] #[], .func (.func 111) #[] #[], .pointer (some ⟨bc, 0, none⟩), .pointer (some ⟨bd, 0, none⟩)] W fun e w' => e = .returned (.int .i64 x) ∧ Below W.heap.size W w')
    (hhi : ∀ W, Below w.heap.size w W → Calls Tryz.prog 112 #[.func (.func 111) #[] #[], .func (.func 110) #[] #[], .pointer (some ⟨bc, 0, none⟩), .pointer (some ⟨bd, 0, none⟩)] W fun e w' => e = .returned (.int .i64 y) ∧ Below W.heap.size W w') :
    Calls Tryz.prog 94 #[.func (.func 112) #[] #[.pointer (some ⟨bc, 0, none⟩), .pointer (some ⟨bd, 0, none⟩)]] w fun e w' => e = .returned (.agg #[.int .i64 x, .int .i64 y]) ∧ Below w.heap.size w w' := by
  have H1 := Lib.hid hlo
  have H2 := Lib.hid hhi
  clear hlo hhi
  go_enter Tryz.func94, Tryz.ntmps94
  go_wp2_with fail
  refine (H1.out _ ?_).mono ?_
  · (repeat (first | exact Below.refl _ _ | assumption | refine Below.drew ?_ | refine Below.drewN ?_ _ | refine blT ?_ | refine blU ?_))
  rintro e w1 ⟨rfl, hb1⟩
  have B1 : Below w.heap.size w w1 := bwS (by (repeat (first | exact Below.refl _ _ | assumption | refine Below.drew ?_ | refine Below.drewN ?_ _ | refine blT ?_ | refine blU ?_))) (Nat.le_refl _) hb1
  have K1 : Blk w1 w.heap.size #[.int .i64 0, .int .i64 0] 24 := (Blk.new w _ _).call hb1
  clear hb1
  go_wp2_with fail
  refine (H2.out _ ?_).mono ?_
  · exact B1
  rintro e w2 ⟨rfl, hb2⟩
  have B2 : Below w.heap.size w w2 := bwS B1 (Nat.le_refl _) hb2
  have K2 : Blk w2 w.heap.size #[.int .i64 0, .int .i64 0] 24 := K1.call hb2
  clear hb2 B1 K1 H1 H2
  have c0 : w2.cell? ⟨w.heap.size, 0, none⟩ = some (.int .i64 0) := K2.cell 0 rfl
  have c1 : w2.cell? ⟨w.heap.size, 1, none⟩ = some (.int .i64 0) := K2.cell 1 rfl
  have f0 := K2.free 0
  have f1 := K2.free 1
  have hf := (K2.set 0 (.int .i64 x)).set 1 (.int .i64 y)
  have Q0 := Lib.hid (show ((w2.setCell ⟨w.heap.size, 0, none⟩ (.int .i64 x)).setCell ⟨w.heap.size, 1, none⟩ (.int .i64 y)).cell? ⟨w.heap.size, 0, none⟩ = some (.int .i64 x) from hf.cell 0 rfl)
  have Q1 := Lib.hid (show ((w2.setCell ⟨w.heap.size, 0, none⟩ (.int .i64 x)).setCell ⟨w.heap.size, 1, none⟩ (.int .i64 y)).cell? ⟨w.heap.size, 1, none⟩ = some (.int .i64 y) from hf.cell 1 rfl)
  clear hf K2
  go_wp2
  refine bodyPost_ret (v := .agg #[.int .i64 x, .int .i64 y]) (by simp [results, Tryz.results94, go_sem, Q0.out, Q1.out]) rfl ⟨rfl, by (repeat (first | exact Below.refl _ _ | assumption | refine Below.drew ?_ | refine Below.drewN ?_ _ | refine blT ?_ | refine blU ?_))⟩


set_option maxRecDepth 100000 in
set_option maxHeartbeats 1000000 in
theorem through_any (v : Value) (n : Nat) (D P0 P1 : Nat → Int) (s0 s1 c0 c1 : Int) (w : World) (h1 : 1 ≤ n) (hv : CovAt w v n D P0 P1)
    (b1 : 0 ≤ c0 * lastP D P0 s1 n) (b2 : c0 * lastP D P0 s1 n ≤ 9000000000000000000) (b3 : 0 ≤ c1 * lastP D P1 s0 n) (b4 : c1 * lastP D P1 s0 n ≤ 9000000000000000000) :
    Calls Tryz.prog 99 #[v, .agg #[.int .i64 s0, .int .i64 s1], .agg #[.int .i64 c0, .int .i64 c1]] w fun e w' => e = .returned (.agg #[.int .i64 (c0 * lastP D P0 s1 n / 1000000), .int .i64 ((c1 * lastP D P1 s0 n + 999999) / 1000000)]) ∧ Below w.heap.size w w' := by
  have hv2 := hv
  obtain ⟨a, cap, rfl, h2, h3, h4⟩ := hv2
  have HV := Lib.hid hv
  have hS : ∀ W, Calls Tryz.prog 71 #[.agg #[.int .i64 c0, .int .i64 c1], .agg #[.int .i64 (lastP D P0 s1 n), .int .i64 (lastP D P1 s0 n)]] W fun e w' => e = .returned (.agg #[.int .i64 (c0 * lastP D P0 s1 n / 1000000), .int .i64 ((c1 * lastP D P1 s0 n + 999999) / 1000000)]) ∧ Below W.heap.size W w' := fun W => shares_any _ _ _ _ W b1 b2 b3 b4
  have HS := Lib.hid hS
  have B := Lib.hid (And.intro b1 (And.intro b2 (And.intro b3 b4)))
  clear hv hS h4 b1 b2 b3 b4
  go_enter Tryz.func99, Tryz.ntmps99
  go_wp2_with fail
  have T0 : Two ((((w.alloc (.cells #[.slice a n cap] 22)).alloc (.cells #[.int .i64 s0, .int .i64 s1] 24)).alloc (.cells #[.int .i64 c0, .int .i64 c1] 24)).alloc (.cells #[.int .i64 0, .int .i64 0] 24)).drew (w.heap.size + 1 + 1 + 1) 24 := ⟨_, _, by simpa using (Blk.new (((w.alloc (.cells #[.slice a n cap] 22)).alloc (.cells #[.int .i64 s0, .int .i64 s1] 24)).alloc (.cells #[.int .i64 c0, .int .i64 c1] 24)) #[.int .i64 0, .int .i64 0] 24).drew⟩
  refine wp_region_held_drew (S := (fun w' => w'.cell? ⟨w.heap.size, 0, none⟩ = some (.slice a n cap) ∧ w'.cell? ⟨w.heap.size + 1, 0, none⟩ = some (.int .i64 s0) ∧ w'.cell? ⟨w.heap.size + 1, 1, none⟩ = some (.int .i64 s1) ∧ w'.cell? ⟨w.heap.size + 1 + 1, 0, none⟩ = some (.int .i64 c0) ∧ w'.cell? ⟨w.heap.size + 1 + 1, 1, none⟩ = some (.int .i64 c1) ∧ Two w' (w.heap.size + 1 + 1 + 1) 24 ∧ Below w.heap.size w w')) (by kernel_rfl) ?_ (fun hH => ?_)
  · (try dsimp only); (go_split_ands; refine ⟨?_, ?_, ?_, ?_, ?_, ?_, ?_⟩ <;> (first | assumption | (exact Two.call (by assumption) hb) | (exact Eight.call (by assumption) hb) | (exact Blk.call (by assumption) hb) | (exact Two.alloc (by assumption) _) | (exact Eight.alloc (by assumption) _) | (exact Blk.alloc (by assumption) _) | (go_simp; done) | (go_keep; done) | (refine cell_later hb ?_; first | assumption | (go_keep; done)) | (refine bwS ?_ ?_ hb; (first | assumption | ((repeat (first | exact Below.refl _ _ | assumption | refine Below.drew ?_ | refine Below.drewN ?_ _ | refine blT ?_ | refine blU ?_)); done)); (first | exact Nat.le_refl _ | (simp; done) | (simp; omega))) | ((repeat (first | exact Below.refl _ _ | assumption | refine Below.drew ?_ | refine Below.drewN ?_ _ | refine blT ?_ | refine blU ?_)); done)))
  refine tkY 0 (some 7) ?_ ?_ ?_
  rotate_left
  · intro w hS0; go_simp; (try with_reducible rfl)
  (try simp only [cq])
  refine tkY 1 (some 8) ?_ ?_ ?_
  rotate_left
  · intro w hS0; go_simp; (try with_reducible rfl)
  (try simp only [cq])
  refine wpAnyH_ready (rs := [2]) (by kernel_rfl) (by simp) ?_
  refine arc1 (some 9) fun K hK => ?_
  go_simp
  ((have hE := hH; refine (ends_thru w.heap.size (w.heap.size + 1) (lastP D P0 s1 n) (lastP D P1 s0 n) _ (fun W hW => thru1_lo a n cap D P0 P1 s0 s1 _ _ W h1 ?_ ?_ ?_ ?_) (fun W hW => thru1_hi a n cap D P0 P1 s0 s1 _ _ W h1 ?_ ?_ ?_ ?_)).mono ?_); (exact HV.out.later (hE.2.2.2.2.2.2.trans (hW.mono hE.2.2.2.2.2.2.size))); (exact cell_later hW hE.1); (exact cell_later hW hE.2.1); (exact cell_later hW hE.2.2.1); (exact HV.out.later (hE.2.2.2.2.2.2.trans (hW.mono hE.2.2.2.2.2.2.size))); (exact cell_later hW hE.1); (exact cell_later hW hE.2.1); (exact cell_later hW hE.2.2.1); rintro e w' ⟨rfl, hb⟩)
  refine hK.out _ _ ?_ (fun hH => ?_)
  · (go_split_ands; refine ⟨?_, ?_, ?_, ?_, ?_, ?_, ?_⟩ <;> (first | assumption | (exact Two.call (by assumption) hb) | (exact Eight.call (by assumption) hb) | (exact Blk.call (by assumption) hb) | (exact Two.alloc (by assumption) _) | (exact Eight.alloc (by assumption) _) | (exact Blk.alloc (by assumption) _) | (go_simp; done) | (go_keep; done) | (refine cell_later hb ?_; first | assumption | (go_keep; done)) | (refine bwS ?_ ?_ hb; (first | assumption | ((repeat (first | exact Below.refl _ _ | assumption | refine Below.drew ?_ | refine Below.drewN ?_ _ | refine blT ?_ | refine blU ?_)); done)); (first | exact Nat.le_refl _ | (simp; done) | (simp; omega))) | ((repeat (first | exact Below.refl _ _ | assumption | refine Below.drew ?_ | refine Below.drewN ?_ _ | refine blT ?_ | refine blU ?_)); done)))
  clear hK K
  (try simp only [cq])
  refine wpAnyH_ready (rs := [3]) (by kernel_rfl) (by simp) ?_
  refine arc1 (some 10) fun K hK => ?_
  go_simp
  (refine (HS.out _).mono ?_; rintro e w' ⟨rfl, hb⟩)
  refine hK.out _ _ ?_ (fun hH => ?_)
  · (go_split_ands; refine ⟨?_, ?_, ?_, ?_, ?_, ?_, ?_⟩ <;> (first | assumption | (exact Two.call (by assumption) hb) | (exact Eight.call (by assumption) hb) | (exact Blk.call (by assumption) hb) | (exact Two.alloc (by assumption) _) | (exact Eight.alloc (by assumption) _) | (exact Blk.alloc (by assumption) _) | (go_simp; done) | (go_keep; done) | (refine cell_later hb ?_; first | assumption | (go_keep; done)) | (refine bwS ?_ ?_ hb; (first | assumption | ((repeat (first | exact Below.refl _ _ | assumption | refine Below.drew ?_ | refine Below.drewN ?_ _ | refine blT ?_ | refine blU ?_)); done)); (first | exact Nat.le_refl _ | (simp; done) | (simp; omega))) | ((repeat (first | exact Below.refl _ _ | assumption | refine Below.drew ?_ | refine Below.drewN ?_ _ | refine blT ?_ | refine blU ?_)); done)))
  clear hK K
  (try simp only [cq])
  refine wpAnyH_ready (rs := [4]) (by kernel_rfl) (by simp) ?_
  refine arc1 none fun K hK => ?_
  (obtain ⟨rx, ry, hR⟩ := hH.2.2.2.2.2.1; obtain ⟨r0, r1⟩ := hR.c2; have r2 := hR.free 0; have r3 := hR.free 1)
  go_simp
  refine hK.out _ _ ?_ (fun hH => ?_)
  · (go_split_ands; refine ⟨?_, ?_, ?_, ?_, ?_, ?_, ?_⟩ <;> first | assumption | (go_simp; done) | (exact Two.put ⟨_, _, hR⟩ _ _) | ((repeat (first | exact Below.refl _ _ | assumption | refine Below.drew ?_ | refine Below.drewN ?_ _ | refine blT ?_ | refine blU ?_)); done))
  clear hK K
  (try simp only [cq])
  refine wpAnyH_done (by kernel_rfl) ?_ _
  (try dsimp only [Act.put])
  (try simp only [cq])
  have hf := (Two.set ⟨_, _, hR⟩ (.int .i64 (c0 * lastP D P0 s1 n / 1000000)) (.int .i64 ((c1 * lastP D P1 s0 n + 999999) / 1000000))).c2
  have hBB : Below w.heap.size w _ := hH.2.2.2.2.2.2
  have HQ := Lib.hid hf
  clear hf hH r0 r1
  go_wp2
  refine bodyPost_ret (v := .agg #[.int .i64 (c0 * lastP D P0 s1 n / 1000000), .int .i64 ((c1 * lastP D P1 s0 n + 999999) / 1000000)]) (by simp [results, Tryz.results99, go_sem, HQ.out.1, HQ.out.2]) rfl ⟨rfl, hBB⟩
end Go.Proofs.YtdbiijldincoiaaGreat

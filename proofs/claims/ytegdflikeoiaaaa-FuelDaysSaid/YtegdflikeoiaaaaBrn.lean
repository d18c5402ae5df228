/-
  burnt (package fuel): what a camp burns on a day of some cold.
-/
import Derived.Test.YtegdflikeoiaaaaTail
import Derived.Test.YtegdflikeoiaaaaCon
set_option linter.unusedVariables false
set_option linter.unusedSimpArgs false
namespace Go.Proofs.Ytegdflikeoiaaaa
open Go.RowKit

def frm (U : Nat → Bu) (i : Nat) : Int := if 0 < i then (U i).co else -1000
def too (U : Nat → Bu) (n i : Nat) : Int := if i + 1 < n then (U (i + 1)).co - 1 else 1000
def BuOk (n : Nat) (U : Nat → Bu) : Prop := ∀ i, i < n → -1000 ≤ (U i).co ∧ (U i).co ≤ 1000 ∧ 0 ≤ (U i).lo ∧ (U i).lo ≤ 1000000000 ∧ 0 ≤ (U i).hi ∧ (U i).hi ≤ 1000000000
set_option maxRecDepth 100000 in
theorem lasting_any (n : Nat) (U : Nat → Bu) (b o cap i : Nat) (hi : i < n) (hn : n ≤ 1000000) (hU : BuOk n U) (w : World) (hA : AtC w b o n 3 (buC U)) :
    Calls Try.prog 143 #[.slice (some ⟨b, o, none⟩) n cap, .int .i64 i] w fun e w' => e = .returned (.tuple #[.int .i64 (frm U i), .int .i64 (too U n i)]) ∧ Below w.heap.size w w' := by
  obtain ⟨a0, -, -⟩ := hA.c3 hi rfl
  obtain ⟨x, hx⟩ : ∃ x, (U i).co = x := ⟨_, rfl⟩
  have e4 : (i : Int) < n := by omega
  have e5 : IntKind.i64.wrap ((i : Int) + 1) = (i : Int) + 1 := IntWalk.i64_in _ (by omega)
  have z0 := World.block_lt_of_cell? _ _ a0
  rw [hx] at a0
  have hB := Below.refl w.heap.size w
  by_cases h0 : i = 0
  · have hf : frm U i = -1000 := if_neg (by omega)
    rw [hf]
    clear hf
    subst h0
    by_cases h1 : 1 < n
    · have ht : too U n 0 = (U 1).co - 1 := if_pos (by omega)
      rw [ht]
      obtain ⟨a1, -, -⟩ := hA.c3 (i := 1) h1 rfl
      have hb := hU 1 h1
      generalize (U 1).co = y at a1 hb
      have e1 : IntKind.i64.wrap (y - 1) = y - 1 := IntWalk.i64_in _ (by omega)
      have e2 : (1 : Int) < n := by omega
      have e3 : (0 : Int) + 1 < n := by omega
      clear hA hU hx ht hb
      simp only [Nat.one_mul] at a1
      go_enter Try.func143, Try.ntmps143
      go_wp2
      exact bodyPost_ret (v := .tuple #[.int .i64 (-1000), .int .i64 (y - 1)]) (by simp [results, Try.results143, go_sem]) rfl ⟨rfl, hB⟩
    · have ht : too U n 0 = 1000 := if_neg (by omega)
      rw [ht]
      have e2 : ¬ (1 : Int) < n := by omega
      have e3 : ¬ (0 : Int) + 1 < n := by omega
      clear hA hU hx ht
      go_enter Try.func143, Try.ntmps143
      go_wp2
      exact bodyPost_ret (v := .tuple #[.int .i64 (-1000), .int .i64 1000]) (by simp [results, Try.results143, go_sem]) rfl ⟨rfl, hB⟩
  · have hf : frm U i = x := by rw [← hx]; exact if_pos (by omega)
    rw [hf]
    have e6 : (0 : Int) < i := by omega
    have e7 : (0 : Int) ≤ (i : Int) := by omega
    clear hf
    by_cases h1 : i + 1 < n
    · have ht : too U n i = (U (i + 1)).co - 1 := if_pos (by omega)
      rw [ht]
      obtain ⟨a1, -, -⟩ := hA.c3 (i := i + 1) h1 rfl
      have hb := hU (i + 1) h1
      generalize (U (i + 1)).co = y at a1 hb
      have e1 : IntKind.i64.wrap (y - 1) = y - 1 := IntWalk.i64_in _ (by omega)
      have e3 : (i : Int) + 1 < n := by omega
      have e8 : (0 : Int) ≤ (i : Int) + 1 := by omega
      clear hA hU hx ht hb h0
      go_enter Try.func143, Try.ntmps143
      go_wp2
      exact bodyPost_ret (v := .tuple #[.int .i64 x, .int .i64 (y - 1)]) (by simp [results, Try.results143, go_sem]) rfl ⟨rfl, hB⟩
    · have ht : too U n i = 1000 := if_neg (by omega)
      rw [ht]
      have e3 : ¬ (i : Int) + 1 < n := by omega
      clear hA hU hx ht h0
      go_enter Try.func143, Try.ntmps143
      go_wp2
      exact bodyPost_ret (v := .tuple #[.int .i64 x, .int .i64 1000]) (by simp [results, Try.results143, go_sem]) rfl ⟨rfl, hB⟩

def bnOn (U : Nat → Bu) (n : Nat) (c0 c1 : Int) (i : Nat) : Bool := decide (frm U i ≤ c1) && decide (c0 ≤ too U n i)
def bnA (U : Nat → Bu) (n : Nat) (c0 c1 : Int) : Nat → Int
  | 0 => 1000000000
  | k + 1 => if bnOn U n c0 c1 k = true then min (bnA U n c0 c1 k) (U k).lo else bnA U n c0 c1 k
def bnB (U : Nat → Bu) (n : Nat) (c0 c1 : Int) : Nat → Int
  | 0 => 0
  | k + 1 => if bnOn U n c0 c1 k = true then max (bnB U n c0 c1 k) (U k).hi else bnB U n c0 c1 k
theorem min_min (a b : Int) : min (min a b) b = min a b := by omega
theorem max_max (a b : Int) : max (max a b) b = max a b := by omega

set_option maxRecDepth 100000 in
set_option maxHeartbeats 4000000 in
theorem burnt_any (n : Nat) (U : Nat → Bu) (c0 c1 : Int) (b o cap : Nat) (hn : n ≤ 1000000) (hU : BuOk n U) (w : World) (hA : 0 < n → AtC w b o n 3 (buC U)) :
    Calls Try.prog 103 #[.slice (some ⟨b, o, none⟩) n cap, .agg #[.int .i64 c0, .int .i64 c1]] w fun e w' => e = .returned (.agg #[.int .i64 (bnA U n c0 c1 n), .int .i64 (bnB U n c0 c1 n)]) ∧ Below w.heap.size w w' := by
  have HU := Lib.hid hU
  have HA := Lib.hid hA
  clear hU hA
  have jC := ((Blk.new w #[.int .i64 c0, .int .i64 c1] 26).alloc (.cells #[.int .i64 0, .int .i64 0] 26)).alloc (.cells #[.int .i64 1000000000, .int .i64 0] 26)
  have jR := (Blk.new1 w (.cells #[.int .i64 c0, .int .i64 c1] 26) #[.int .i64 0, .int .i64 0] 26).alloc (.cells #[.int .i64 1000000000, .int .i64 0] 26)
  have jS := Blk.new2 w (.cells #[.int .i64 c0, .int .i64 c1] 26) (.cells #[.int .i64 0, .int .i64 0] 26) #[.int .i64 1000000000, .int .i64 0] 26
  have jB : Below w.heap.size w (((w.alloc (.cells #[.int .i64 c0, .int .i64 c1] 26)).alloc (.cells #[.int .i64 0, .int .i64 0] 26)).alloc (.cells #[.int .i64 1000000000, .int .i64 0] 26)) := by (repeat (first | exact Below.refl _ _ | assumption | refine Below.drew ?_ | refine Below.drewN ?_ _ | refine blT ?_ | refine blU ?_))
  go_enter Try.func103, Try.ntmps103
  go_wp2_with fail
  go_loopw [13] (fun i wr => ∃ k : Nat, k ≤ n ∧ i = .int .i64 k ∧ Blk wr w.heap.size #[.int .i64 c0, .int .i64 c1] 26 ∧ Blk wr (w.heap.size + 1) #[.int .i64 0, .int .i64 0] 26 ∧ Blk wr (w.heap.size + 1 + 1) #[.int .i64 (bnA U n c0 c1 k), .int .i64 (bnB U n c0 c1 k)] 26 ∧ Below w.heap.size w wr) (fun i _ => n - (intOf i).toNat)
  case atStart => exact ⟨0, Nat.zero_le _, rfl, jC, jR, jS, jB⟩
  case round =>
    clear jC jR jS jB
    obtain ⟨k, hk, rfl, jC, jR, jS, jB⟩ := hrel
    by_cases hlt : k < n
    · have hc := HA.out (by omega)
      obtain ⟨a0, a1, a2⟩ := hc.c3 hlt rfl
      have HL := Lib.hid (fun (W : World) (hW : Below w.heap.size w W) => lasting_any n U b o cap k hlt hn HU.out W (hc.later hW))
      obtain ⟨u, hu⟩ : ∃ u, U k = u := ⟨_, rfl⟩
      have q1 : bnA U n c0 c1 (k + 1) = if bnOn U n c0 c1 k = true then min (bnA U n c0 c1 k) (U k).lo else bnA U n c0 c1 k := rfl
      have q2 : bnB U n c0 c1 (k + 1) = if bnOn U n c0 c1 k = true then max (bnB U n c0 c1 k) (U k).hi else bnB U n c0 c1 k := rfl
      have q3 : bnOn U n c0 c1 k = (decide (frm U k ≤ c1) && decide (c0 ≤ too U n k)) := rfl
      rw [q3, hu] at q1 q2
      rw [hu] at a0 a1 a2
      generalize frm U k = x at q1 q2 HL
      generalize too U n k = y at q1 q2 HL
      generalize bnA U n c0 c1 k = A at q1 jS
      generalize bnB U n c0 c1 k = B at q2 jS
      clear q3 hu hc
      have zb := World.block_lt_of_cell? _ _ a0
      replace a0 := cell_later jB a0
      replace a1 := cell_later jB a1
      replace a2 := cell_later jB a2
      have hltI : (k : Int) < n := by omega
      have jX := Blk.new wr #[.int .i64 u.co, .int .i64 u.lo, .int .i64 u.hi] 127
      have zS := jS.lt
      replace jC := jC.alloc (.cells #[.int .i64 u.co, .int .i64 u.lo, .int .i64 u.hi] 127)
      replace jR := jR.alloc (.cells #[.int .i64 u.co, .int .i64 u.lo, .int .i64 u.hi] 127)
      replace jS := jS.alloc (.cells #[.int .i64 u.co, .int .i64 u.lo, .int .i64 u.hi] 127)
      have jB2 := bwA jB (Nat.le_refl _) (.cells #[.int .i64 u.co, .int .i64 u.lo, .int .i64 u.hi] 127)
      have Q := Lib.hid (And.intro q1 q2)
      clear q1 q2
      go_wp2_with fail
      obtain ⟨bx, hbx⟩ : ∃ x, wr.heap.size = x := ⟨_, rfl⟩
      rw [hbx] at jX zS ⊢
      clear hbx
      refine (HL.out _ jB2).mono ?_
      rintro e w2 ⟨rfl, hb⟩
      replace jC := jC.call hb
      replace jR := jR.call hb
      replace jS := jS.call hb
      have jX2 := jX.call hb
      replace jB := bwS jB2 (Nat.le_refl _) hb
      clear hb jB2 HL jX
      obtain ⟨p0, p1⟩ := jC.c2
      by_cases h1 : x ≤ c1
      · by_cases h2 : c0 ≤ y
        · obtain ⟨q1, q2⟩ := Q.out
          have hz : (decide (x ≤ c1) && decide (c0 ≤ y)) = true := by simp [h1, h2]
          rw [if_pos hz] at q1 q2
          clear hz
          obtain ⟨z0, hz0⟩ : ∃ z, min A u.lo = z := ⟨_, rfl⟩
          obtain ⟨z1, hz1⟩ : ∃ z, max B u.hi = z := ⟨_, rfl⟩
          have y0 : min z0 u.lo = z0 := by rw [← hz0]; exact min_min _ _
          have y1 : max z1 u.hi = z1 := by rw [← hz1]; exact max_max _ _
          rw [hz0] at q1
          rw [hz1] at q2
          have Q2 := Lib.hid (And.intro q1 q2)
          clear Q q1 q2
          go_upto_region 7 with fail
          clear h1 h2 p0 p1
          clear y0 y1
          have nX : bx ≠ w.heap.size + 1 + 1 := by omega
          obtain ⟨D0, D1⟩ := jS.c2
          have F0 := jS.free 0
          have F1 := jS.free 1
          have ZS := jS.lt
          have K1 := Lib.hid (And.intro (jC.other ⟨w.heap.size + 1 + 1, 0, none⟩ (.int .i64 z0) (by show _ ≠ w.heap.size + 1 + 1; omega)) (And.intro (jR.other ⟨w.heap.size + 1 + 1, 0, none⟩ (.int .i64 z0) (by show _ ≠ w.heap.size + 1 + 1; omega)) (And.intro (jX2.other ⟨w.heap.size + 1 + 1, 0, none⟩ (.int .i64 z0) (by show _ ≠ w.heap.size + 1 + 1; omega)) (jB.setCell (p := ⟨w.heap.size + 1 + 1, 0, none⟩) (by show _ ≤ w.heap.size + 1 + 1; omega) (.int .i64 z0)).drew)))
          have K2 := Lib.hid (And.intro ((jC.other ⟨w.heap.size + 1 + 1, 0, none⟩ (.int .i64 z0) (by show _ ≠ w.heap.size + 1 + 1; omega)).other ⟨w.heap.size + 1 + 1, 1, none⟩ (.int .i64 z1) (by show _ ≠ w.heap.size + 1 + 1; omega)) (And.intro ((jR.other ⟨w.heap.size + 1 + 1, 0, none⟩ (.int .i64 z0) (by show _ ≠ w.heap.size + 1 + 1; omega)).other ⟨w.heap.size + 1 + 1, 1, none⟩ (.int .i64 z1) (by show _ ≠ w.heap.size + 1 + 1; omega)) (And.intro ((jX2.other ⟨w.heap.size + 1 + 1, 0, none⟩ (.int .i64 z0) (by show _ ≠ w.heap.size + 1 + 1; omega)).other ⟨w.heap.size + 1 + 1, 1, none⟩ (.int .i64 z1) (by show _ ≠ w.heap.size + 1 + 1; omega)) ((jB.setCell (p := ⟨w.heap.size + 1 + 1, 0, none⟩) (by show _ ≤ w.heap.size + 1 + 1; omega) (.int .i64 z0)).setCell (p := ⟨w.heap.size + 1 + 1, 1, none⟩) (by show _ ≤ w.heap.size + 1 + 1; omega) (.int .i64 z1)).drew)))
          have KS := Lib.hid ((jS.set 0 (.int .i64 z0)).set 1 (.int .i64 z1))
          (
 refine wp_region_held_drew (S := (fun wx => Blk wx w.heap.size #[.int .i64 c0, .int .i64 c1] 26 ∧ Blk wx (w.heap.size + 1) #[.int .i64 0, .int .i64 0] 26 ∧ Blk wx bx #[.int .i64 u.co, .int .i64 u.lo, .int .i64 u.hi] 127 ∧ Below w.heap.size w wx)) (by kernel_rfl) ?_ (fun hH => ?_)
 · (try dsimp only); (exact ⟨jC.drew, jR.drew, jX2.drew, jB.drew⟩)
 refine tkY 0 (some 34) ?_ ?_ ?_
 rotate_left
 · intro w hS0; (try dsimp only at hS0); obtain ⟨kC, kR, kX, kB⟩ := hS0; have c0' := kX.cell 0 rfl; have c1' := kX.cell 1 rfl; have c2' := kX.cell 2 rfl; have yX := kX.lt;go_simp; (try with_reducible rfl)
 (try simp only [cq])
 refine tkY 2 (some 36) ?_ ?_ ?_
 rotate_left
 · intro w hS0; (try dsimp only at hS0); obtain ⟨kC, kR, kX, kB⟩ := hS0; have c0' := kX.cell 0 rfl; have c1' := kX.cell 1 rfl; have c2' := kX.cell 2 rfl; have yX := kX.lt;go_simp; (try with_reducible rfl)
 (try simp only [cq])
 refine tkY 3 (some 37) ?_ ?_ ?_
 rotate_left
 · intro w hS0; (try dsimp only at hS0); obtain ⟨kC, kR, kX, kB⟩ := hS0; have c0' := kX.cell 0 rfl; have c1' := kX.cell 1 rfl; have c2' := kX.cell 2 rfl; have yX := kX.lt;go_simp; (try with_reducible rfl)
 (try simp only [cq])
 refine tkY 4 (some 38) ?_ ?_ ?_
 rotate_left
 · intro w hS0; (try dsimp only at hS0); obtain ⟨kC, kR, kX, kB⟩ := hS0; have c0' := kX.cell 0 rfl; have c1' := kX.cell 1 rfl; have c2' := kX.cell 2 rfl; have yX := kX.lt;go_simp; (try with_reducible rfl)
 (try simp only [cq])
 refine tkY 6 (some 40) ?_ ?_ ?_
 rotate_left
 · intro w hS0; (try dsimp only at hS0); obtain ⟨kC, kR, kX, kB⟩ := hS0; have c0' := kX.cell 0 rfl; have c1' := kX.cell 1 rfl; have c2' := kX.cell 2 rfl; have yX := kX.lt;go_simp; (try with_reducible rfl)
 (try simp only [cq])
 refine tkY 8 (some 42) ?_ ?_ ?_
 rotate_left
 · intro w hS0; (try dsimp only at hS0); obtain ⟨kC, kR, kX, kB⟩ := hS0; have c0' := kX.cell 0 rfl; have c1' := kX.cell 1 rfl; have c2' := kX.cell 2 rfl; have yX := kX.lt;go_simp; (try with_reducible rfl)
 (try simp only [cq])
 refine tkY 9 (some 43) ?_ ?_ ?_
 rotate_left
 · intro w hS0; (try dsimp only at hS0); obtain ⟨kC, kR, kX, kB⟩ := hS0; have c0' := kX.cell 0 rfl; have c1' := kX.cell 1 rfl; have c2' := kX.cell 2 rfl; have yX := kX.lt;go_simp; (try with_reducible rfl)
 (try simp only [cq])
 refine tkY 10 (some 44) ?_ ?_ ?_
 rotate_left
 · intro w hS0; (try dsimp only at hS0); obtain ⟨kC, kR, kX, kB⟩ := hS0; have c0' := kX.cell 0 rfl; have c1' := kX.cell 1 rfl; have c2' := kX.cell 2 rfl; have yX := kX.lt;go_simp; (try with_reducible rfl)
 (try simp only [cq])
 refine wpAnyH_ready (rs := [1, 7]) (by kernel_rfl) (by simp) ?_
 refine arc (some 35) (fun K hK => ?_) ?_
 {
 go_simp
 refine hK.out _ _ ?_ (fun hH => ?_)
 · (exact hH)
 clear hK K
 (try simp only [cq])
 refine tkY 5 (some 39) ?_ ?_ ?_
 rotate_left
 · intro w hS0; (try dsimp only at hS0); obtain ⟨kC, kR, kX, kB⟩ := hS0; have c0' := kX.cell 0 rfl; have c1' := kX.cell 1 rfl; have c2' := kX.cell 2 rfl; have yX := kX.lt;go_simp; (try with_reducible rfl)
 (try simp only [cq])
 refine wpAnyH_ready (rs := [7]) (by kernel_rfl) (by simp) ?_
 refine arc1 (some 41) fun K hK => ?_
 go_simp
 refine hK.out _ _ ?_ (fun hH => ?_)
 · (exact hH)
 clear hK K
 (try simp only [cq])
 refine tkY 11 (some 45) ?_ ?_ ?_
 rotate_left
 · intro w hS0; (try dsimp only at hS0); obtain ⟨kC, kR, kX, kB⟩ := hS0; have c0' := kX.cell 0 rfl; have c1' := kX.cell 1 rfl; have c2' := kX.cell 2 rfl; have yX := kX.lt;go_simp; (try with_reducible rfl)
 (try simp only [cq])
 refine tkY 12 (some 46) ?_ ?_ ?_
 rotate_left
 · intro w hS0; (try dsimp only at hS0); obtain ⟨kC, kR, kX, kB⟩ := hS0; have c0' := kX.cell 0 rfl; have c1' := kX.cell 1 rfl; have c2' := kX.cell 2 rfl; have yX := kX.lt;go_simp; (try with_reducible rfl)
 (try simp only [cq])
 refine wpAnyH_ready (rs := [13]) (by kernel_rfl) (by simp) ?_
 refine arc1 none fun K hK => ?_
 go_simp
 refine hK.out _ _ ?_ (fun hH => ?_)
 · exact K1.out
 clear hK K
 (try simp only [cq])
 refine tkY 14 (some 47) ?_ ?_ ?_
 rotate_left
 · intro w hS0; (try dsimp only at hS0); obtain ⟨kC, kR, kX, kB⟩ := hS0; have c0' := kX.cell 0 rfl; have c1' := kX.cell 1 rfl; have c2' := kX.cell 2 rfl; have yX := kX.lt;go_simp; (try with_reducible rfl)
 (try simp only [cq])
 refine wpAnyH_ready (rs := [15]) (by kernel_rfl) (by simp) ?_
 refine arc1 none fun K hK => ?_
 go_simp
 refine hK.out _ _ ?_ (fun hH => ?_)
 · exact K2.out
 clear hK K
 (try simp only [cq])
 refine wpAnyH_done (by kernel_rfl) ?_ _
 (try dsimp only [Act.put])
 (try simp only [cq])
 clear D0 D1 F0 F1 ZS K1 jC jR jX2 jB
 obtain ⟨jC, jR, jX2, jB⟩ := K2.out
 go_wp2
 go_roundw
 case rel => exact ⟨k + 1, by omega, by go_num, jC, jR, by rw [Q2.out.1, Q2.out.2]; exact KS.out, jB⟩
 case measure => simp [intOf]; omega
 }
 refine arc (some 41) (fun K hK => ?_) ?_
 {
 go_simp
 refine hK.out _ _ ?_ (fun hH => ?_)
 · (exact hH)
 clear hK K
 (try simp only [cq])
 refine tkY 11 (some 45) ?_ ?_ ?_
 rotate_left
 · intro w hS0; (try dsimp only at hS0); obtain ⟨kC, kR, kX, kB⟩ := hS0; have c0' := kX.cell 0 rfl; have c1' := kX.cell 1 rfl; have c2' := kX.cell 2 rfl; have yX := kX.lt;go_simp; (try with_reducible rfl)
 (try simp only [cq])
 refine wpAnyH_ready (rs := [1]) (by kernel_rfl) (by simp) ?_
 refine arc1 (some 35) fun K hK => ?_
 go_simp
 refine hK.out _ _ ?_ (fun hH => ?_)
 · (exact hH)
 clear hK K
 (try simp only [cq])
 refine tkY 5 (some 39) ?_ ?_ ?_
 rotate_left
 · intro w hS0; (try dsimp only at hS0); obtain ⟨kC, kR, kX, kB⟩ := hS0; have c0' := kX.cell 0 rfl; have c1' := kX.cell 1 rfl; have c2' := kX.cell 2 rfl; have yX := kX.lt;go_simp; (try with_reducible rfl)
 (try simp only [cq])
 refine tkY 12 (some 46) ?_ ?_ ?_
 rotate_left
 · intro w hS0; (try dsimp only at hS0); obtain ⟨kC, kR, kX, kB⟩ := hS0; have c0' := kX.cell 0 rfl; have c1' := kX.cell 1 rfl; have c2' := kX.cell 2 rfl; have yX := kX.lt;go_simp; (try with_reducible rfl)
 (try simp only [cq])
 refine wpAnyH_ready (rs := [13]) (by kernel_rfl) (by simp) ?_
 refine arc1 none fun K hK => ?_
 go_simp
 refine hK.out _ _ ?_ (fun hH => ?_)
 · exact K1.out
 clear hK K
 (try simp only [cq])
 refine tkY 14 (some 47) ?_ ?_ ?_
 rotate_left
 · intro w hS0; (try dsimp only at hS0); obtain ⟨kC, kR, kX, kB⟩ := hS0; have c0' := kX.cell 0 rfl; have c1' := kX.cell 1 rfl; have c2' := kX.cell 2 rfl; have yX := kX.lt;go_simp; (try with_reducible rfl)
 (try simp only [cq])
 refine wpAnyH_ready (rs := [15]) (by kernel_rfl) (by simp) ?_
 refine arc1 none fun K hK => ?_
 go_simp
 refine hK.out _ _ ?_ (fun hH => ?_)
 · exact K2.out
 clear hK K
 (try simp only [cq])
 refine wpAnyH_done (by kernel_rfl) ?_ _
 (try dsimp only [Act.put])
 (try simp only [cq])
 clear D0 D1 F0 F1 ZS K1 jC jR jX2 jB
 obtain ⟨jC, jR, jX2, jB⟩ := K2.out
 go_wp2
 go_roundw
 case rel => exact ⟨k + 1, by omega, by go_num, jC, jR, by rw [Q2.out.1, Q2.out.2]; exact KS.out, jB⟩
 case measure => simp [intOf]; omega
 }
 exact AllReadyH.nil )
        · obtain ⟨q1, q2⟩ := Q.out
          have hz : ¬ (decide (x ≤ c1) && decide (c0 ≤ y)) = true := by simp [h1, h2]
          rw [if_neg hz] at q1 q2
          have Q2 := Lib.hid (And.intro q1 q2)
          clear Q q1 q2 hz
          go_wp2
          go_roundw
          case rel => exact ⟨k + 1, by omega, by go_num, jC, jR, by rw [Q2.out.1, Q2.out.2]; exact jS, jB⟩
          case measure => simp [intOf]; omega
      · obtain ⟨q1, q2⟩ := Q.out
        have hz : ¬ (decide (x ≤ c1) && decide (c0 ≤ y)) = true := by simp [h1]
        rw [if_neg hz] at q1 q2
        have Q2 := Lib.hid (And.intro q1 q2)
        clear Q q1 q2 hz
        go_wp2
        go_roundw
        case rel => exact ⟨k + 1, by omega, by go_num, jC, jR, by rw [Q2.out.1, Q2.out.2]; exact jS, jB⟩
        case measure => simp [intOf]; omega
    · obtain rfl : k = n := by omega
      obtain ⟨A, hA⟩ : ∃ z, bnA U k c0 c1 k = z := ⟨_, rfl⟩
      obtain ⟨B, hB⟩ : ∃ z, bnB U k c0 c1 k = z := ⟨_, rfl⟩
      rw [hA, hB] at jS
      have HAB := Lib.hid (And.intro hA hB)
      clear hA hB
      obtain ⟨d0, d1⟩ := jS.c2
      obtain ⟨r0, r1⟩ := jR.c2
      have f0 := jR.free 0
      have f1 := jR.free 1
      have zR := jR.lt
      have KR := Lib.hid ((jR.set 0 (.int .i64 A)).set 1 (.int .i64 B))
      have KB := Lib.hid ((jB.setCell (p := ⟨w.heap.size + 1, 0, none⟩) (by show _ ≤ w.heap.size + 1; omega) (.int .i64 A)).setCell (p := ⟨w.heap.size + 1, 1, none⟩) (by show _ ≤ w.heap.size + 1; omega) (.int .i64 B))
      clear jC jR jS jB
      go_wp2_with fail
      obtain ⟨z0, z1⟩ := KR.out.c2
      exact bodyPost_ret (v := .agg #[.int .i64 A, .int .i64 B]) (by simp [results, Try.results103, go_sem, z0, z1]) rfl ⟨by rw [HAB.out.1, HAB.out.2], KB.out⟩
end Go.Proofs.Ytegdflikeoiaaaa

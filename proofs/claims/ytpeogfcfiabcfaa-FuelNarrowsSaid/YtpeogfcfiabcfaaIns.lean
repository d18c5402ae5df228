/-
  Has (sastrugikit), inside (the law of layer 6), where it is so; parts of spans around a number.
-/
import Derived.Test.YtpeogfcfiabcfaaTail
import Derived.Test.YtpeogfcfiabcfaaMis
import Derived.Test.YtpeogfcfiabcfaaOf
set_option linter.unusedVariables false
set_option linter.unusedSimpArgs false
namespace Go.Proofs.Ytpeogfcfiabcfaa
open Go.RowKit

set_option maxRecDepth 100000 in
theorem has_ok (a0 a1 x : Int) (h0 : a0 ≤ x) (h1 : x ≤ a1) (w : World) : Calls Try.prog 51 #[.agg #[.int .i64 a0, .int .i64 a1], .int .i64 x] w fun e w' => e = .returned (.bool true) ∧ Below w.heap.size w w' := by
  have jA := Blk.new w #[.int .i64 a0, .int .i64 a1] 26
  have kB : Below w.heap.size w (w.alloc (.cells #[.int .i64 a0, .int .i64 a1] 26)) := by (repeat (first | exact Below.refl _ _ | assumption | refine Below.drew ?_ | refine Below.drewN ?_ _ | refine blT ?_ | refine blU ?_))
  obtain ⟨c0, c1⟩ := jA.c2
  have e0 : decide (a0 ≤ x) = true := decide_eq_true h0
  have e1 : decide (x ≤ a1) = true := decide_eq_true h1
  clear h0 h1
  go_enter Try.func51, Try.ntmps51
  go_wp2
  go_ret
  exact ⟨by simp [e0, e1], kB⟩
set_option maxRecDepth 100000 in
set_option maxHeartbeats 8000000 in
theorem inside_ok (n m : Nat) (A : Nat → Ac) (M : Nat → Mv) (O C X : Nat → Int) (vA vM vO vC vX : Value) (hn : n ≤ 1000) (hm : m ≤ 1000)
    (hA1 : ∀ i, i < n → (A i).o0 ≤ O i ∧ O i ≤ (A i).o1 ∧ (A i).c0 ≤ C i ∧ C i ≤ (A i).c1) (hM1 : ∀ i, i < m → (M i).lo ≤ X i ∧ X i ≤ (M i).hi) (w : World) (hA : AcsAt w vA n A) (hMv : MvsAt w vM m M) (hOv : IntsAt w vO n O) (hCv : IntsAt w vC n C) (hXv : IntsAt w vX m X) :
    Calls Try.prog 53 #[.agg #[vA, vM], .agg #[vO, vC, vX]] w fun e w' => e = .returned (.bool true) ∧ Below w.heap.size w w' := by
  have LA := Lib.hid (fun (W : World) (h : Below w.heap.size w W) => And.intro (hA.later h) (And.intro (hMv.later h) (And.intro (hOv.later h) (And.intro (hCv.later h) (hXv.later h)))))
  obtain ⟨aA, cA, rfl, -, -, -⟩ := hA
  obtain ⟨aM, cM, rfl, -, -, -⟩ := hMv
  obtain ⟨aO, cO, rfl, -, -, -⟩ := hOv
  obtain ⟨aC, cC, rfl, -, -, -⟩ := hCv
  obtain ⟨aX, cX, rfl, -, -, -⟩ := hXv
  have jB := (Blk.new w #[.slice aA n cA, .slice aM m cM] 44).alloc (.cells #[.slice aO n cO, .slice aC n cC, .slice aX m cX] 46)
  have jT := Blk.new1 w (.cells #[.slice aA n cA, .slice aM m cM] 44) #[.slice aO n cO, .slice aC n cC, .slice aX m cX] 46
  have jW : Below w.heap.size w ((w.alloc (.cells #[.slice aA n cA, .slice aM m cM] 44)).alloc (.cells #[.slice aO n cO, .slice aC n cC, .slice aX m cX] 46)) := by (repeat (first | exact Below.refl _ _ | assumption | refine Below.drew ?_ | refine Below.drewN ?_ _ | refine blT ?_ | refine blU ?_))
  go_enter Try.func53, Try.ntmps53
  go_wp2_with fail
  obtain ⟨V, hV⟩ : ∃ V, Blk.wld jB = V := ⟨_, rfl⟩
  simp only [Blk.wld] at hV
  rw [hV] at jB jT jW ⊢
  clear hV
  have HT := Lib.hid (fun (W : World) (h : Below V.heap.size V W) => And.intro (jB.call h) (And.intro (jT.call h) (LA.out W (jW.trans (h.mono jW.size)))))
  have HJ := Lib.hid jW
  have zV := jW.size
  clear jB jT jW LA
  go_loopw [5] (fun i wr => ∃ k : Nat, i = .int .i64 k ∧ k ≤ n ∧ Below V.heap.size V wr) (fun i _ => n - (intOf i).toNat)
  case atStart => exact ⟨0, rfl, Nat.zero_le _, Below.refl _ _⟩
  case round =>
    obtain ⟨k, rfl, hk, hB⟩ := hrel
    obtain ⟨kB, -, -⟩ := HT.out _ hB
    obtain ⟨b0, b1⟩ := kB.c2
    by_cases hlt : k < n
    · have hltI : (k : Int) < n := by omega
      obtain ⟨-, -, ⟨_, _, ea, -, -, gA⟩, -, ⟨_, _, eo, -, -, gO⟩, ⟨_, _, ec, -, -, gC⟩, -⟩ := HT.out _ hB
      simp only [Value.slice.injEq] at ea eo ec
      obtain ⟨rfl, -, rfl⟩ := ea
      obtain ⟨rfl, -, rfl⟩ := eo
      obtain ⟨rfl, -, rfl⟩ := ec
      obtain ⟨bA, oA, rfl, kA⟩ := gA (by omega)
      obtain ⟨bO, oO, rfl, kO⟩ := gO (by omega)
      obtain ⟨bC, oC, rfl, kC⟩ := gC (by omega)
      obtain ⟨a0, a1, a2, a3, a4, a5⟩ := AtC.c6 (show AtC wr bA oA n 6 (acC A) from kA) hlt rfl
      have q0 := AtC.c1 (show AtC wr bO oO n 1 (inC O) from kO) hlt rfl
      have q1 := AtC.c1 (show AtC wr bC oC n 1 (inC C) from kC) hlt rfl
      have hin := hA1 k hlt
      generalize (A k).o0 = o0 at a2 hin
      generalize (A k).o1 = o1 at a3 hin
      generalize (A k).c0 = c0 at a4 hin
      generalize (A k).c1 = c1 at a5 hin
      generalize O k = x at q0 hin
      generalize C k = y at q1 hin
      have W1 := Lib.hid (fun (W : World) => has_ok o0 o1 x hin.1 hin.2.1 W)
      have W2 := Lib.hid (fun (W : World) => has_ok c0 c1 y hin.2.2.1 hin.2.2.2 W)
      have HC := Lib.hid (fun (W : World) (h : Below wr.heap.size wr W) => And.intro (HT.out W (hB.trans (h.mono hB.size))) (And.intro (cell_later h q0) (And.intro (cell_later h q1) (And.intro (cell_later h a2) (And.intro (cell_later h a3) (And.intro (cell_later h a4) (cell_later h a5)))))))
      clear gA gO gC kA kO kC hin q0 q1 a0 a1 a2 a3 a4 a5
      go_upto_region 4 with fail
      clear kB b0 b1
      refine wp_region_held_drew (S := (fun wx => Below wr.heap.size wr wx)) (by kernel_rfl) ?_ (fun hH => ?_)
      · (try dsimp only); (exact (Below.refl _ _).drew)
      refine tkY 0 (some 14) ?_ ?_ ?_
      rotate_left
      · intro w hS0; (try dsimp only at hS0); obtain ⟨⟨kB, kT, -⟩, q0, q1, a2, a3, a4, a5⟩ := HC.out _ hS0; have b0 := kB.cell 0 rfl; have t0 := kT.cell 0 rfl; have t1 := kT.cell 1 rfl; have y1 := kB.lt; have y2 := kT.lt; have y3 := World.block_lt_of_cell? _ _ q0; have y4 := World.block_lt_of_cell? _ _ q1; have y5 := World.block_lt_of_cell? _ _ a2;go_simp; (try with_reducible rfl)
      (try simp only [cq])
      refine tkY 1 (some 15) ?_ ?_ ?_
      rotate_left
      · intro w hS0; (try dsimp only at hS0); obtain ⟨⟨kB, kT, -⟩, q0, q1, a2, a3, a4, a5⟩ := HC.out _ hS0; have b0 := kB.cell 0 rfl; have t0 := kT.cell 0 rfl; have t1 := kT.cell 1 rfl; have y1 := kB.lt; have y2 := kT.lt; have y3 := World.block_lt_of_cell? _ _ q0; have y4 := World.block_lt_of_cell? _ _ q1; have y5 := World.block_lt_of_cell? _ _ a2;go_simp; (try with_reducible rfl)
      (try simp only [cq])
      refine tkY 2 (some 16) ?_ ?_ ?_
      rotate_left
      · intro w _; go_simp; (try with_reducible rfl)
      (try simp only [cq])
      refine tkY 3 (some 17) ?_ ?_ ?_
      rotate_left
      · intro w hS0; (try dsimp only at hS0); obtain ⟨⟨kB, kT, -⟩, q0, q1, a2, a3, a4, a5⟩ := HC.out _ hS0; have b0 := kB.cell 0 rfl; have t0 := kT.cell 0 rfl; have t1 := kT.cell 1 rfl; have y1 := kB.lt; have y2 := kT.lt; have y3 := World.block_lt_of_cell? _ _ q0; have y4 := World.block_lt_of_cell? _ _ q1; have y5 := World.block_lt_of_cell? _ _ a2;go_simp; (try with_reducible rfl)
      (try simp only [cq])
      refine tkY 4 (some 18) ?_ ?_ ?_
      rotate_left
      · intro w hS0; (try dsimp only at hS0); obtain ⟨⟨kB, kT, -⟩, q0, q1, a2, a3, a4, a5⟩ := HC.out _ hS0; have b0 := kB.cell 0 rfl; have t0 := kT.cell 0 rfl; have t1 := kT.cell 1 rfl; have y1 := kB.lt; have y2 := kT.lt; have y3 := World.block_lt_of_cell? _ _ q0; have y4 := World.block_lt_of_cell? _ _ q1; have y5 := World.block_lt_of_cell? _ _ a2;go_simp; (try with_reducible rfl)
      (try simp only [cq])
      refine tkY 5 (some 19) ?_ ?_ ?_
      rotate_left
      · intro w hS0; (try dsimp only at hS0); obtain ⟨⟨kB, kT, -⟩, q0, q1, a2, a3, a4, a5⟩ := HC.out _ hS0; have b0 := kB.cell 0 rfl; have t0 := kT.cell 0 rfl; have t1 := kT.cell 1 rfl; have y1 := kB.lt; have y2 := kT.lt; have y3 := World.block_lt_of_cell? _ _ q0; have y4 := World.block_lt_of_cell? _ _ q1; have y5 := World.block_lt_of_cell? _ _ a2;go_simp; (try with_reducible rfl)
      (try simp only [cq])
      refine tkY 6 (some 20) ?_ ?_ ?_
      rotate_left
      · intro w hS0; (try dsimp only at hS0); obtain ⟨⟨kB, kT, -⟩, q0, q1, a2, a3, a4, a5⟩ := HC.out _ hS0; have b0 := kB.cell 0 rfl; have t0 := kT.cell 0 rfl; have t1 := kT.cell 1 rfl; have y1 := kB.lt; have y2 := kT.lt; have y3 := World.block_lt_of_cell? _ _ q0; have y4 := World.block_lt_of_cell? _ _ q1; have y5 := World.block_lt_of_cell? _ _ a2;go_simp; (try with_reducible rfl)
      (try simp only [cq])
      refine tkY 7 (some 21) ?_ ?_ ?_
      rotate_left
      · intro w hS0; (try dsimp only at hS0); obtain ⟨⟨kB, kT, -⟩, q0, q1, a2, a3, a4, a5⟩ := HC.out _ hS0; have b0 := kB.cell 0 rfl; have t0 := kT.cell 0 rfl; have t1 := kT.cell 1 rfl; have y1 := kB.lt; have y2 := kT.lt; have y3 := World.block_lt_of_cell? _ _ q0; have y4 := World.block_lt_of_cell? _ _ q1; have y5 := World.block_lt_of_cell? _ _ a2;go_simp; (try with_reducible rfl)
      (try simp only [cq])
      refine tkY 8 (some 22) ?_ ?_ ?_
      rotate_left
      · intro w _; go_simp; (try with_reducible rfl)
      (try simp only [cq])
      refine tkY 9 (some 23) ?_ ?_ ?_
      rotate_left
      · intro w hS0; (try dsimp only at hS0); obtain ⟨⟨kB, kT, -⟩, q0, q1, a2, a3, a4, a5⟩ := HC.out _ hS0; have b0 := kB.cell 0 rfl; have t0 := kT.cell 0 rfl; have t1 := kT.cell 1 rfl; have y1 := kB.lt; have y2 := kT.lt; have y3 := World.block_lt_of_cell? _ _ q0; have y4 := World.block_lt_of_cell? _ _ q1; have y5 := World.block_lt_of_cell? _ _ a2;go_simp; (try with_reducible rfl)
      (try simp only [cq])
      refine tkY 10 (some 24) ?_ ?_ ?_
      rotate_left
      · intro w hS0; (try dsimp only at hS0); obtain ⟨⟨kB, kT, -⟩, q0, q1, a2, a3, a4, a5⟩ := HC.out _ hS0; have b0 := kB.cell 0 rfl; have t0 := kT.cell 0 rfl; have t1 := kT.cell 1 rfl; have y1 := kB.lt; have y2 := kT.lt; have y3 := World.block_lt_of_cell? _ _ q0; have y4 := World.block_lt_of_cell? _ _ q1; have y5 := World.block_lt_of_cell? _ _ a2;go_simp; (try with_reducible rfl)
      (try simp only [cq])
      refine wpAnyH_ready (rs := [11]) (by kernel_rfl) (by simp) ?_
      refine arc1 (some 25) fun K hK => ?_
      go_simp
      (refine (W1.out _).mono ?_; rintro e w' ⟨rfl, hb⟩)
      refine hK.out _ _ ?_ ?_
      · (exact bwS hH (Nat.le_refl _) hb)
      (try clear hH); (try clear hb)
      intro hH
      clear hK K
      (try simp only [cq])
      refine tkY 12 (some 26) ?_ ?_ ?_
      rotate_left
      · intro w _; go_simp; (try with_reducible rfl)
      (try simp only [cq])
      refine tkY 13 (some 27) ?_ ?_ ?_
      rotate_left
      · intro w _; go_simp; (try with_reducible rfl)
      (try simp only [cq])
      refine tkY 14 (some 28) ?_ ?_ ?_
      rotate_left
      · intro w hS0; (try dsimp only at hS0); obtain ⟨⟨kB, kT, -⟩, q0, q1, a2, a3, a4, a5⟩ := HC.out _ hS0; have b0 := kB.cell 0 rfl; have t0 := kT.cell 0 rfl; have t1 := kT.cell 1 rfl; have y1 := kB.lt; have y2 := kT.lt; have y3 := World.block_lt_of_cell? _ _ q0; have y4 := World.block_lt_of_cell? _ _ q1; have y5 := World.block_lt_of_cell? _ _ a2;go_simp; (try with_reducible rfl)
      (try simp only [cq])
      refine tkY 15 (some 29) ?_ ?_ ?_
      rotate_left
      · intro w hS0; (try dsimp only at hS0); obtain ⟨⟨kB, kT, -⟩, q0, q1, a2, a3, a4, a5⟩ := HC.out _ hS0; have b0 := kB.cell 0 rfl; have t0 := kT.cell 0 rfl; have t1 := kT.cell 1 rfl; have y1 := kB.lt; have y2 := kT.lt; have y3 := World.block_lt_of_cell? _ _ q0; have y4 := World.block_lt_of_cell? _ _ q1; have y5 := World.block_lt_of_cell? _ _ a2;go_simp; (try with_reducible rfl)
      (try simp only [cq])
      refine tkY 16 (some 30) ?_ ?_ ?_
      rotate_left
      · intro w _; go_simp; (try with_reducible rfl)
      (try simp only [cq])
      refine tkY 17 (some 31) ?_ ?_ ?_
      rotate_left
      · intro w hS0; (try dsimp only at hS0); obtain ⟨⟨kB, kT, -⟩, q0, q1, a2, a3, a4, a5⟩ := HC.out _ hS0; have b0 := kB.cell 0 rfl; have t0 := kT.cell 0 rfl; have t1 := kT.cell 1 rfl; have y1 := kB.lt; have y2 := kT.lt; have y3 := World.block_lt_of_cell? _ _ q0; have y4 := World.block_lt_of_cell? _ _ q1; have y5 := World.block_lt_of_cell? _ _ a2;go_simp; (try with_reducible rfl)
      (try simp only [cq])
      refine tkY 18 (some 32) ?_ ?_ ?_
      rotate_left
      · intro w hS0; (try dsimp only at hS0); obtain ⟨⟨kB, kT, -⟩, q0, q1, a2, a3, a4, a5⟩ := HC.out _ hS0; have b0 := kB.cell 0 rfl; have t0 := kT.cell 0 rfl; have t1 := kT.cell 1 rfl; have y1 := kB.lt; have y2 := kT.lt; have y3 := World.block_lt_of_cell? _ _ q0; have y4 := World.block_lt_of_cell? _ _ q1; have y5 := World.block_lt_of_cell? _ _ a2;go_simp; (try with_reducible rfl)
      (try simp only [cq])
      refine tkY 19 (some 33) ?_ ?_ ?_
      rotate_left
      · intro w hS0; (try dsimp only at hS0); obtain ⟨⟨kB, kT, -⟩, q0, q1, a2, a3, a4, a5⟩ := HC.out _ hS0; have b0 := kB.cell 0 rfl; have t0 := kT.cell 0 rfl; have t1 := kT.cell 1 rfl; have y1 := kB.lt; have y2 := kT.lt; have y3 := World.block_lt_of_cell? _ _ q0; have y4 := World.block_lt_of_cell? _ _ q1; have y5 := World.block_lt_of_cell? _ _ a2;go_simp; (try with_reducible rfl)
      (try simp only [cq])
      refine tkY 20 (some 34) ?_ ?_ ?_
      rotate_left
      · intro w hS0; (try dsimp only at hS0); obtain ⟨⟨kB, kT, -⟩, q0, q1, a2, a3, a4, a5⟩ := HC.out _ hS0; have b0 := kB.cell 0 rfl; have t0 := kT.cell 0 rfl; have t1 := kT.cell 1 rfl; have y1 := kB.lt; have y2 := kT.lt; have y3 := World.block_lt_of_cell? _ _ q0; have y4 := World.block_lt_of_cell? _ _ q1; have y5 := World.block_lt_of_cell? _ _ a2;go_simp; (try with_reducible rfl)
      (try simp only [cq])
      refine tkY 21 (some 35) ?_ ?_ ?_
      rotate_left
      · intro w hS0; (try dsimp only at hS0); obtain ⟨⟨kB, kT, -⟩, q0, q1, a2, a3, a4, a5⟩ := HC.out _ hS0; have b0 := kB.cell 0 rfl; have t0 := kT.cell 0 rfl; have t1 := kT.cell 1 rfl; have y1 := kB.lt; have y2 := kT.lt; have y3 := World.block_lt_of_cell? _ _ q0; have y4 := World.block_lt_of_cell? _ _ q1; have y5 := World.block_lt_of_cell? _ _ a2;go_simp; (try with_reducible rfl)
      (try simp only [cq])
      refine tkY 22 (some 36) ?_ ?_ ?_
      rotate_left
      · intro w _; go_simp; (try with_reducible rfl)
      (try simp only [cq])
      refine tkY 23 (some 37) ?_ ?_ ?_
      rotate_left
      · intro w hS0; (try dsimp only at hS0); obtain ⟨⟨kB, kT, -⟩, q0, q1, a2, a3, a4, a5⟩ := HC.out _ hS0; have b0 := kB.cell 0 rfl; have t0 := kT.cell 0 rfl; have t1 := kT.cell 1 rfl; have y1 := kB.lt; have y2 := kT.lt; have y3 := World.block_lt_of_cell? _ _ q0; have y4 := World.block_lt_of_cell? _ _ q1; have y5 := World.block_lt_of_cell? _ _ a2;go_simp; (try with_reducible rfl)
      (try simp only [cq])
      refine tkY 24 (some 38) ?_ ?_ ?_
      rotate_left
      · intro w hS0; (try dsimp only at hS0); obtain ⟨⟨kB, kT, -⟩, q0, q1, a2, a3, a4, a5⟩ := HC.out _ hS0; have b0 := kB.cell 0 rfl; have t0 := kT.cell 0 rfl; have t1 := kT.cell 1 rfl; have y1 := kB.lt; have y2 := kT.lt; have y3 := World.block_lt_of_cell? _ _ q0; have y4 := World.block_lt_of_cell? _ _ q1; have y5 := World.block_lt_of_cell? _ _ a2;go_simp; (try with_reducible rfl)
      (try simp only [cq])
      refine wpAnyH_ready (rs := [25]) (by kernel_rfl) (by simp) ?_
      refine arc1 (some 39) fun K hK => ?_
      go_simp
      (refine (W2.out _).mono ?_; rintro e w' ⟨rfl, hb⟩)
      refine hK.out _ _ ?_ ?_
      · (exact bwS hH (Nat.le_refl _) hb)
      (try clear hH); (try clear hb)
      intro hH
      clear hK K
      (try simp only [cq])
      refine tkY 26 (some 40) ?_ ?_ ?_
      rotate_left
      · intro w _; go_simp; (try with_reducible rfl)
      (try simp only [cq])
      refine tkY 27 (some 41) ?_ ?_ ?_
      rotate_left
      · intro w _; go_simp; (try with_reducible rfl)
      (try simp only [cq])
      refine wpAnyH_done (by kernel_rfl) ?_ _
      (try dsimp only [Act.put])
      (try simp only [cq])
      have hB2 : Below V.heap.size V _ := hB.trans (hH.mono hB.size)
      clear hH hB HC W1 W2
      go_wp2
      go_roundw
      case rel => exact ⟨k + 1, by go_num, by omega, hB2⟩
      case measure => simp [intOf]; omega
    · obtain rfl : k = n := by omega
      go_wp2_with fail
      clear kB b0 b1
      go_loopw [6] (fun i wr => ∃ j : Nat, i = .int .i64 j ∧ j ≤ m ∧ Below V.heap.size V wr) (fun i _ => m - (intOf i).toNat)
      case atStart => exact ⟨0, rfl, Nat.zero_le _, hB⟩
      case round =>
        clear hB
        obtain ⟨j, rfl, hj, hB⟩ := hrel
        obtain ⟨kB, -, -⟩ := HT.out _ hB
        obtain ⟨b0, b1⟩ := kB.c2
        by_cases hlt : j < m
        · have hltI : (j : Int) < m := by omega
          obtain ⟨-, -, -, ⟨_, _, ea, -, -, gA⟩, -, -, ⟨_, _, ec, -, -, gC⟩⟩ := HT.out _ hB
          simp only [Value.slice.injEq] at ea ec
          obtain ⟨rfl, -, rfl⟩ := ea
          obtain ⟨rfl, -, rfl⟩ := ec
          obtain ⟨bA, oA, rfl, kA⟩ := gA (by omega)
          obtain ⟨bC, oC, rfl, kC⟩ := gC (by omega)
          obtain ⟨a0, a1, a2, a3⟩ := AtC.c4 (show AtC wr bA oA m 4 (mvC M) from kA) hlt rfl
          have q1 := AtC.c1 (show AtC wr bC oC m 1 (inC X) from kC) hlt rfl
          have hin := hM1 j hlt
          generalize (M j).lo = lo at a2 hin
          generalize (M j).hi = hi at a3 hin
          generalize X j = x at q1 hin
          have W1 := Lib.hid (fun (W : World) => has_ok lo hi x hin.1 hin.2 W)
          have HC := Lib.hid (fun (W : World) (h : Below wr.heap.size wr W) => And.intro (HT.out W (hB.trans (h.mono hB.size))) (And.intro (cell_later h q1) (And.intro (cell_later h a2) (cell_later h a3))))
          clear gA gC kA kC hin q1 a0 a1 a2 a3
          go_upto_region 9 with fail
          clear kB b0 b1
          refine wp_region_held_drew (S := (fun wx => Below wr.heap.size wr wx)) (by kernel_rfl) ?_ (fun hH => ?_)
          · (try dsimp only); (exact (Below.refl _ _).drew)
          refine tkY 0 (some 49) ?_ ?_ ?_
          rotate_left
          · intro w hS0; (try dsimp only at hS0); obtain ⟨⟨kB, kT, -⟩, q1, a2, a3⟩ := HC.out _ hS0; have b1 := kB.cell 1 rfl; have t2 := kT.cell 2 rfl; have y1 := kB.lt; have y2 := kT.lt; have y3 := World.block_lt_of_cell? _ _ q1; have y5 := World.block_lt_of_cell? _ _ a2;go_simp; (try with_reducible rfl)
          (try simp only [cq])
          refine tkY 1 (some 50) ?_ ?_ ?_
          rotate_left
          · intro w hS0; (try dsimp only at hS0); obtain ⟨⟨kB, kT, -⟩, q1, a2, a3⟩ := HC.out _ hS0; have b1 := kB.cell 1 rfl; have t2 := kT.cell 2 rfl; have y1 := kB.lt; have y2 := kT.lt; have y3 := World.block_lt_of_cell? _ _ q1; have y5 := World.block_lt_of_cell? _ _ a2;go_simp; (try with_reducible rfl)
          (try simp only [cq])
          refine tkY 2 (some 51) ?_ ?_ ?_
          rotate_left
          · intro w _; go_simp; (try with_reducible rfl)
          (try simp only [cq])
          refine tkY 3 (some 52) ?_ ?_ ?_
          rotate_left
          · intro w hS0; (try dsimp only at hS0); obtain ⟨⟨kB, kT, -⟩, q1, a2, a3⟩ := HC.out _ hS0; have b1 := kB.cell 1 rfl; have t2 := kT.cell 2 rfl; have y1 := kB.lt; have y2 := kT.lt; have y3 := World.block_lt_of_cell? _ _ q1; have y5 := World.block_lt_of_cell? _ _ a2;go_simp; (try with_reducible rfl)
          (try simp only [cq])
          refine tkY 4 (some 53) ?_ ?_ ?_
          rotate_left
          · intro w hS0; (try dsimp only at hS0); obtain ⟨⟨kB, kT, -⟩, q1, a2, a3⟩ := HC.out _ hS0; have b1 := kB.cell 1 rfl; have t2 := kT.cell 2 rfl; have y1 := kB.lt; have y2 := kT.lt; have y3 := World.block_lt_of_cell? _ _ q1; have y5 := World.block_lt_of_cell? _ _ a2;go_simp; (try with_reducible rfl)
          (try simp only [cq])
          refine tkY 5 (some 54) ?_ ?_ ?_
          rotate_left
          · intro w hS0; (try dsimp only at hS0); obtain ⟨⟨kB, kT, -⟩, q1, a2, a3⟩ := HC.out _ hS0; have b1 := kB.cell 1 rfl; have t2 := kT.cell 2 rfl; have y1 := kB.lt; have y2 := kT.lt; have y3 := World.block_lt_of_cell? _ _ q1; have y5 := World.block_lt_of_cell? _ _ a2;go_simp; (try with_reducible rfl)
          (try simp only [cq])
          refine tkY 6 (some 55) ?_ ?_ ?_
          rotate_left
          · intro w hS0; (try dsimp only at hS0); obtain ⟨⟨kB, kT, -⟩, q1, a2, a3⟩ := HC.out _ hS0; have b1 := kB.cell 1 rfl; have t2 := kT.cell 2 rfl; have y1 := kB.lt; have y2 := kT.lt; have y3 := World.block_lt_of_cell? _ _ q1; have y5 := World.block_lt_of_cell? _ _ a2;go_simp; (try with_reducible rfl)
          (try simp only [cq])
          refine tkY 7 (some 56) ?_ ?_ ?_
          rotate_left
          · intro w hS0; (try dsimp only at hS0); obtain ⟨⟨kB, kT, -⟩, q1, a2, a3⟩ := HC.out _ hS0; have b1 := kB.cell 1 rfl; have t2 := kT.cell 2 rfl; have y1 := kB.lt; have y2 := kT.lt; have y3 := World.block_lt_of_cell? _ _ q1; have y5 := World.block_lt_of_cell? _ _ a2;go_simp; (try with_reducible rfl)
          (try simp only [cq])
          refine tkY 8 (some 57) ?_ ?_ ?_
          rotate_left
          · intro w _; go_simp; (try with_reducible rfl)
          (try simp only [cq])
          refine tkY 9 (some 58) ?_ ?_ ?_
          rotate_left
          · intro w hS0; (try dsimp only at hS0); obtain ⟨⟨kB, kT, -⟩, q1, a2, a3⟩ := HC.out _ hS0; have b1 := kB.cell 1 rfl; have t2 := kT.cell 2 rfl; have y1 := kB.lt; have y2 := kT.lt; have y3 := World.block_lt_of_cell? _ _ q1; have y5 := World.block_lt_of_cell? _ _ a2;go_simp; (try with_reducible rfl)
          (try simp only [cq])
          refine tkY 10 (some 59) ?_ ?_ ?_
          rotate_left
          · intro w hS0; (try dsimp only at hS0); obtain ⟨⟨kB, kT, -⟩, q1, a2, a3⟩ := HC.out _ hS0; have b1 := kB.cell 1 rfl; have t2 := kT.cell 2 rfl; have y1 := kB.lt; have y2 := kT.lt; have y3 := World.block_lt_of_cell? _ _ q1; have y5 := World.block_lt_of_cell? _ _ a2;go_simp; (try with_reducible rfl)
          (try simp only [cq])
          refine wpAnyH_ready (rs := [11]) (by kernel_rfl) (by simp) ?_
          refine arc1 (some 60) fun K hK => ?_
          go_simp
          (refine (W1.out _).mono ?_; rintro e w' ⟨rfl, hb⟩)
          refine hK.out _ _ ?_ ?_
          · (exact bwS hH (Nat.le_refl _) hb)
          (try clear hH); (try clear hb)
          intro hH
          clear hK K
          (try simp only [cq])
          refine tkY 12 (some 61) ?_ ?_ ?_
          rotate_left
          · intro w _; go_simp; (try with_reducible rfl)
          (try simp only [cq])
          refine wpAnyH_done (by kernel_rfl) ?_ _
          (try dsimp only [Act.put])
          (try simp only [cq])
          have hB2 : Below V.heap.size V _ := hB.trans (hH.mono hB.size)
          clear hH hB HC W1
          go_wp2
          go_roundw
          case rel => exact ⟨j + 1, by go_num, by omega, hB2⟩
          case measure => simp [intOf]; omega
        · obtain rfl : j = m := by omega
          have hJ : Below w.heap.size w _ := HJ.out.trans (hB.mono zV)
          clear hB
          go_wp2
          go_ret
          exact ⟨rfl, hJ⟩
end Go.Proofs.Ytpeogfcfiabcfaa

/-
  within, checkTruth (package fuel) where the truth lies in the book; Check where there is a truth.
-/
import Derived.Test.YtpeogfcfiabcfaaTail
import Derived.Test.YtpeogfcfiabcfaaLot
import Derived.Test.YtpeogfcfiabcfaaMis
set_option linter.unusedVariables false
set_option linter.unusedSimpArgs false
namespace Go.Proofs.Ytpeogfcfiabcfaa
open Go.RowKit

theorem eN_ok {x lo hi : Int} (h1 : lo ≤ x) (h2 : x ≤ hi) : eN x lo hi = 0 := if_neg (by omega)
set_option maxRecDepth 100000 in
theorem fwithin_ok (x lo hi : Int) (h1 : lo ≤ x) (h2 : x ≤ hi) (w : World) : Calls Try.prog 122 #[.int .i64 x, .agg #[.int .i64 lo, .int .i64 hi]] w fun e w' => e = .returned (.int .i64 0) ∧ Below w.heap.size w w' := by
  have jB := Blk.new w #[.int .i64 lo, .int .i64 hi] 26
  have kB : Below w.heap.size w (w.alloc (.cells #[.int .i64 lo, .int .i64 hi] 26)) := by (repeat (first | exact Below.refl _ _ | assumption | refine Below.drew ?_ | refine Below.drewN ?_ _ | refine blT ?_ | refine blU ?_))
  obtain ⟨c0, c1⟩ := jB.c2
  have HN := Lib.hid (fun (W : World) => number_any x lo hi W)
  rw [eN_ok h1 h2] at HN
  clear h1 h2
  go_enter Try.func122, Try.ntmps122
  go_wp2_with fail
  refine (HN.out _).mono ?_
  rintro e w' ⟨rfl, rfl⟩
  go_wp2
  go_ret
  exact ⟨rfl, kB⟩
def belC {B : Nat} {a w : World} (_ : Below B a w) : World := w
set_option maxRecDepth 100000 in
set_option maxHeartbeats 8000000 in
theorem ctruth_ok (n m : Nat) (A : Nat → Ac) (M : Nat → Mv) (O C X : Nat → Int) (vA vM vO vC vX : Value) (hn : n ≤ 1000) (hm : m ≤ 1000)
    (hA1 : ∀ i, i < n → (A i).o0 ≤ O i ∧ O i ≤ (A i).o1 ∧ (A i).c0 ≤ C i ∧ C i ≤ (A i).c1) (hM1 : ∀ i, i < m → (M i).lo ≤ X i ∧ X i ≤ (M i).hi) (w : World) (hA : AcsAt w vA n A) (hMv : MvsAt w vM m M) (hOv : IntsAt w vO n O) (hCv : IntsAt w vC n C) (hXv : IntsAt w vX m X) :
    Calls Try.prog 82 #[.agg #[vA, vM], .agg #[vO, vC, vX]] w fun e w' => e = .returned (.int .i64 0) ∧ Below w.heap.size w w' := by
  have LA := Lib.hid (fun (W : World) (h : Below w.heap.size w W) => And.intro (hA.later h) (And.intro (hMv.later h) (And.intro (hOv.later h) (And.intro (hCv.later h) (hXv.later h)))))
  obtain ⟨aA, cA, rfl, -, -, -⟩ := hA
  obtain ⟨aM, cM, rfl, -, -, -⟩ := hMv
  obtain ⟨aO, cO, rfl, -, -, -⟩ := hOv
  obtain ⟨aC, cC, rfl, -, -, -⟩ := hCv
  obtain ⟨aX, cX, rfl, -, -, -⟩ := hXv
  have jB := (Blk.new w #[.slice aA n cA, .slice aM m cM] 44).alloc (.cells #[.slice aO n cO, .slice aC n cC, .slice aX m cX] 46)
  have jT := Blk.new1 w (.cells #[.slice aA n cA, .slice aM m cM] 44) #[.slice aO n cO, .slice aC n cC, .slice aX m cX] 46
  have jW : Below w.heap.size w ((w.alloc (.cells #[.slice aA n cA, .slice aM m cM] 44)).alloc (.cells #[.slice aO n cO, .slice aC n cC, .slice aX m cX] 46)) := by (repeat (first | exact Below.refl _ _ | assumption | refine Below.drew ?_ | refine Below.drewN ?_ _ | refine blT ?_ | refine blU ?_))
  have e0 : ((n : Int) == n) = true := by simp
  have e1 : ((m : Int) == m) = true := by simp
  have e2 : ((0 : Int) != 0) = false := by decide
  go_enter Try.func82, Try.ntmps82
  go_upto_region 1 with fail
  obtain ⟨V, hV⟩ : ∃ V, Blk.wld jB = V := ⟨_, rfl⟩
  simp only [Blk.wld] at hV
  rw [hV] at jB jT jW ⊢
  clear hV
  have HT := Lib.hid (fun (W : World) (h : Below V.heap.size V W) => And.intro (jB.call h) (And.intro (jT.call h) (LA.out W (jW.trans (h.mono jW.size)))))
  have HJ := Lib.hid jW
  have zV := jW.size
  clear jB jT jW LA
  have FO := Lib.hid (fun (W : World) => (show Calls Try.prog 110 #[.bool true] W fun e w' => e = .returned (.int .i64 0) ∧ W = w' from form_any true W))
  refine wp_region_held_drew (S := (fun wx => Below V.heap.size V wx)) (by kernel_rfl) ?_ (fun hH => ?_)
  · (try dsimp only); (exact (Below.refl _ _).drew)
  refine tkY 0 (some 12) ?_ ?_ ?_
  rotate_left
  · intro w hS0; (try dsimp only at hS0); obtain ⟨kB, kT, _⟩ := HT.out _ hS0; obtain ⟨b0, b1⟩ := kB.c2; have t0 := kT.cell 0 rfl; have t1 := kT.cell 1 rfl; have t2 := kT.cell 2 rfl; have y1 := kB.lt; have y2 := kT.lt;go_simp; (try with_reducible rfl)
  (try simp only [cq])
  refine tkY 1 (some 13) ?_ ?_ ?_
  rotate_left
  · intro w hS0; (try dsimp only at hS0); obtain ⟨kB, kT, _⟩ := HT.out _ hS0; obtain ⟨b0, b1⟩ := kB.c2; have t0 := kT.cell 0 rfl; have t1 := kT.cell 1 rfl; have t2 := kT.cell 2 rfl; have y1 := kB.lt; have y2 := kT.lt;go_simp; (try with_reducible rfl)
  (try simp only [cq])
  refine tkY 2 (some 14) ?_ ?_ ?_
  rotate_left
  · intro w hS0; (try dsimp only at hS0); obtain ⟨kB, kT, _⟩ := HT.out _ hS0; obtain ⟨b0, b1⟩ := kB.c2; have t0 := kT.cell 0 rfl; have t1 := kT.cell 1 rfl; have t2 := kT.cell 2 rfl; have y1 := kB.lt; have y2 := kT.lt;go_simp; (try with_reducible rfl)
  (try simp only [cq])
  refine tkY 3 (some 15) ?_ ?_ ?_
  rotate_left
  · intro w hS0; (try dsimp only at hS0); obtain ⟨kB, kT, _⟩ := HT.out _ hS0; obtain ⟨b0, b1⟩ := kB.c2; have t0 := kT.cell 0 rfl; have t1 := kT.cell 1 rfl; have t2 := kT.cell 2 rfl; have y1 := kB.lt; have y2 := kT.lt;go_simp; (try with_reducible rfl)
  (try simp only [cq])
  refine tkY 4 (some 16) ?_ ?_ ?_
  rotate_left
  · intro w hS0; (try dsimp only at hS0); obtain ⟨kB, kT, _⟩ := HT.out _ hS0; obtain ⟨b0, b1⟩ := kB.c2; have t0 := kT.cell 0 rfl; have t1 := kT.cell 1 rfl; have t2 := kT.cell 2 rfl; have y1 := kB.lt; have y2 := kT.lt;go_simp; (try with_reducible rfl)
  (try simp only [cq])
  refine tkY 5 (some 17) ?_ ?_ ?_
  rotate_left
  · intro w hS0; (try dsimp only at hS0); obtain ⟨kB, kT, _⟩ := HT.out _ hS0; obtain ⟨b0, b1⟩ := kB.c2; have t0 := kT.cell 0 rfl; have t1 := kT.cell 1 rfl; have t2 := kT.cell 2 rfl; have y1 := kB.lt; have y2 := kT.lt;go_simp; (try with_reducible rfl)
  (try simp only [cq])
  refine tkY 6 (some 18) ?_ ?_ ?_
  rotate_left
  · intro w _; go_simp; (try with_reducible rfl)
  (try simp only [cq])
  refine tkY 8 (some 20) ?_ ?_ ?_
  rotate_left
  · intro w hS0; (try dsimp only at hS0); obtain ⟨kB, kT, _⟩ := HT.out _ hS0; obtain ⟨b0, b1⟩ := kB.c2; have t0 := kT.cell 0 rfl; have t1 := kT.cell 1 rfl; have t2 := kT.cell 2 rfl; have y1 := kB.lt; have y2 := kT.lt;go_simp; (try with_reducible rfl)
  (try simp only [cq])
  refine tkY 9 (some 21) ?_ ?_ ?_
  rotate_left
  · intro w hS0; (try dsimp only at hS0); obtain ⟨kB, kT, _⟩ := HT.out _ hS0; obtain ⟨b0, b1⟩ := kB.c2; have t0 := kT.cell 0 rfl; have t1 := kT.cell 1 rfl; have t2 := kT.cell 2 rfl; have y1 := kB.lt; have y2 := kT.lt;go_simp; (try with_reducible rfl)
  (try simp only [cq])
  refine tkY 10 (some 22) ?_ ?_ ?_
  rotate_left
  · intro w hS0; (try dsimp only at hS0); obtain ⟨kB, kT, _⟩ := HT.out _ hS0; obtain ⟨b0, b1⟩ := kB.c2; have t0 := kT.cell 0 rfl; have t1 := kT.cell 1 rfl; have t2 := kT.cell 2 rfl; have y1 := kB.lt; have y2 := kT.lt;go_simp; (try with_reducible rfl)
  (try simp only [cq])
  refine tkY 11 (some 23) ?_ ?_ ?_
  rotate_left
  · intro w hS0; (try dsimp only at hS0); obtain ⟨kB, kT, _⟩ := HT.out _ hS0; obtain ⟨b0, b1⟩ := kB.c2; have t0 := kT.cell 0 rfl; have t1 := kT.cell 1 rfl; have t2 := kT.cell 2 rfl; have y1 := kB.lt; have y2 := kT.lt;go_simp; (try with_reducible rfl)
  (try simp only [cq])
  refine tkY 12 (some 24) ?_ ?_ ?_
  rotate_left
  · intro w hS0; (try dsimp only at hS0); obtain ⟨kB, kT, _⟩ := HT.out _ hS0; obtain ⟨b0, b1⟩ := kB.c2; have t0 := kT.cell 0 rfl; have t1 := kT.cell 1 rfl; have t2 := kT.cell 2 rfl; have y1 := kB.lt; have y2 := kT.lt;go_simp; (try with_reducible rfl)
  (try simp only [cq])
  refine tkY 13 (some 25) ?_ ?_ ?_
  rotate_left
  · intro w hS0; (try dsimp only at hS0); obtain ⟨kB, kT, _⟩ := HT.out _ hS0; obtain ⟨b0, b1⟩ := kB.c2; have t0 := kT.cell 0 rfl; have t1 := kT.cell 1 rfl; have t2 := kT.cell 2 rfl; have y1 := kB.lt; have y2 := kT.lt;go_simp; (try with_reducible rfl)
  (try simp only [cq])
  refine tkY 14 (some 26) ?_ ?_ ?_
  rotate_left
  · intro w _; go_simp; (try with_reducible rfl)
  (try simp only [cq])
  refine tkY 16 (some 28) ?_ ?_ ?_
  rotate_left
  · intro w hS0; (try dsimp only at hS0); obtain ⟨kB, kT, _⟩ := HT.out _ hS0; obtain ⟨b0, b1⟩ := kB.c2; have t0 := kT.cell 0 rfl; have t1 := kT.cell 1 rfl; have t2 := kT.cell 2 rfl; have y1 := kB.lt; have y2 := kT.lt;go_simp; (try with_reducible rfl)
  (try simp only [cq])
  refine tkY 17 (some 29) ?_ ?_ ?_
  rotate_left
  · intro w hS0; (try dsimp only at hS0); obtain ⟨kB, kT, _⟩ := HT.out _ hS0; obtain ⟨b0, b1⟩ := kB.c2; have t0 := kT.cell 0 rfl; have t1 := kT.cell 1 rfl; have t2 := kT.cell 2 rfl; have y1 := kB.lt; have y2 := kT.lt;go_simp; (try with_reducible rfl)
  (try simp only [cq])
  refine tkY 18 (some 30) ?_ ?_ ?_
  rotate_left
  · intro w hS0; (try dsimp only at hS0); obtain ⟨kB, kT, _⟩ := HT.out _ hS0; obtain ⟨b0, b1⟩ := kB.c2; have t0 := kT.cell 0 rfl; have t1 := kT.cell 1 rfl; have t2 := kT.cell 2 rfl; have y1 := kB.lt; have y2 := kT.lt;go_simp; (try with_reducible rfl)
  (try simp only [cq])
  refine tkY 19 (some 31) ?_ ?_ ?_
  rotate_left
  · intro w hS0; (try dsimp only at hS0); obtain ⟨kB, kT, _⟩ := HT.out _ hS0; obtain ⟨b0, b1⟩ := kB.c2; have t0 := kT.cell 0 rfl; have t1 := kT.cell 1 rfl; have t2 := kT.cell 2 rfl; have y1 := kB.lt; have y2 := kT.lt;go_simp; (try with_reducible rfl)
  (try simp only [cq])
  refine tkY 20 (some 32) ?_ ?_ ?_
  rotate_left
  · intro w hS0; (try dsimp only at hS0); obtain ⟨kB, kT, _⟩ := HT.out _ hS0; obtain ⟨b0, b1⟩ := kB.c2; have t0 := kT.cell 0 rfl; have t1 := kT.cell 1 rfl; have t2 := kT.cell 2 rfl; have y1 := kB.lt; have y2 := kT.lt;go_simp; (try with_reducible rfl)
  (try simp only [cq])
  refine tkY 21 (some 33) ?_ ?_ ?_
  rotate_left
  · intro w hS0; (try dsimp only at hS0); obtain ⟨kB, kT, _⟩ := HT.out _ hS0; obtain ⟨b0, b1⟩ := kB.c2; have t0 := kT.cell 0 rfl; have t1 := kT.cell 1 rfl; have t2 := kT.cell 2 rfl; have y1 := kB.lt; have y2 := kT.lt;go_simp; (try with_reducible rfl)
  (try simp only [cq])
  refine tkY 22 (some 34) ?_ ?_ ?_
  rotate_left
  · intro w _; go_simp; (try with_reducible rfl)
  (try simp only [cq])
  refine wpAnyH_ready (rs := [7]) (by kernel_rfl) (by simp) ?_
  refine arc1 (some 19) fun K hK => ?_
  go_simp
  (refine (FO.out _).mono ?_; rintro e w' ⟨rfl, rfl⟩)
  refine hK.out _ _ ?_ (fun hH => ?_)
  · (exact hH)
  clear hK K
  (try simp only [cq])
  refine wpAnyH_ready (rs := [15]) (by kernel_rfl) (by simp) ?_
  refine arc1 (some 27) fun K hK => ?_
  go_simp
  (refine (FO.out _).mono ?_; rintro e w' ⟨rfl, rfl⟩)
  refine hK.out _ _ ?_ (fun hH => ?_)
  · (exact hH)
  clear hK K
  (try simp only [cq])
  refine wpAnyH_ready (rs := [23]) (by kernel_rfl) (by simp) ?_
  refine arc1 (some 35) fun K hK => ?_
  go_simp
  (refine (FO.out _).mono ?_; rintro e w' ⟨rfl, rfl⟩)
  refine hK.out _ _ ?_ (fun hH => ?_)
  · (exact hH)
  clear hK K
  (try simp only [cq])
  refine wpAnyH_ready (rs := [24]) (by kernel_rfl) (by simp) ?_
  refine arc1 (some 36) fun K hK => ?_
  go_simp
  refine hK.out _ _ ?_ (fun hH => ?_)
  · exact hH.alloc hH.size _
  clear hK K
  (try simp only [cq])
  refine wpAnyH_ready (rs := [25]) (by kernel_rfl) (by simp) ?_
  refine arc1 (some 37) fun K hK => ?_
  go_simp
  (refine (first_three _ _ 0 0 0 _ (by first | (simp; done) | (go_simp; done) | (go_keep; done)) (by first | (simp; done) | (go_simp; done) | (go_keep; done)) (by first | (simp; done) | (go_simp; done) | (go_keep; done))).mono ?_; rintro e w' ⟨rfl, rfl⟩)
  refine hK.out _ _ ?_ (fun hH => ?_)
  · (exact hH)
  clear hK K
  (try simp only [cq])
  refine tkY 26 (some 5) ?_ ?_ ?_
  rotate_left
  · intro w _; go_simp; (try with_reducible rfl)
  (try simp only [cq])
  refine wpAnyH_done (by kernel_rfl) ?_ _
  (try dsimp only [Act.put])
  (try simp only [cq])
  have hB0 : Below V.heap.size V _ := hH
  clear hH
  have eo : orE 0 (orE 0 0) = 0 := rfl
  rw [eo]
  clear eo
  obtain ⟨kB, kT, -⟩ := HT.out _ hB0
  obtain ⟨b0, b1⟩ := kB.c2
  go_wp2_with fail
  clear kB kT b0 b1
  go_loopw [44] (fun i wr => ∃ k : Nat, i = .int .i64 k ∧ k ≤ n ∧ Below V.heap.size V wr) (fun i _ => n - (intOf i).toNat)
  case atStart => exact ⟨0, rfl, Nat.zero_le _, hB0⟩
  case round =>
    clear hB0
    obtain ⟨k, rfl, hk, hB⟩ := hrel
    by_cases hlt : k < n
    · have hltI : (k : Int) < n := by omega
      have HQ := Lib.hid (fun (W : World) (h : Below V.heap.size V W) => (HT.out W h))
      obtain ⟨-, -, ⟨_, _, ea, -, -, gA⟩, -, ⟨_, _, eo, -, -, gO⟩, ⟨_, _, ec, -, -, gC⟩, -⟩ := HT.out _ hB
      simp only [Value.slice.injEq] at ea eo ec
      obtain ⟨rfl, -, rfl⟩ := ea
      obtain ⟨rfl, -, rfl⟩ := eo
      obtain ⟨rfl, -, rfl⟩ := ec
      obtain ⟨bA, oA, rfl, kA⟩ := gA (by omega)
      obtain ⟨bO, oO, rfl, kO⟩ := gO (by omega)
      obtain ⟨bC, oC, rfl, kC⟩ := gC (by omega)
      obtain ⟨a0, a1, a2, a3, a4, a5⟩ := AtC.c6 (show AtC wr bA oA n 6 (acC A) from kA) hlt rfl
      have q0 := AtC.c1 (show AtC wr bO oO n 1 (inC O) from kO) hlt rfl
      have q1 := AtC.c1 (show AtC wr bC oC n 1 (inC C) from kC) hlt rfl
      have hin := hA1 k hlt
      generalize (A k).nm = anm at a0
      generalize (A k).ki = aki at a1
      generalize (A k).o0 = o0 at a2 hin
      generalize (A k).o1 = o1 at a3 hin
      generalize (A k).c0 = c0 at a4 hin
      generalize (A k).c1 = c1 at a5 hin
      generalize O k = x at q0 hin
      generalize C k = y at q1 hin
      have W1 := Lib.hid (fun (W : World) => fwithin_ok x o0 o1 hin.1 hin.2.1 W)
      have W2 := Lib.hid (fun (W : World) => fwithin_ok y c0 c1 hin.2.2.1 hin.2.2.2 W)
      have ya := World.block_lt_of_cell? _ _ a0
      have HC := Lib.hid (fun (W : World) (h : Below wr.heap.size wr W) => And.intro (cell_later h q0) (cell_later h q1))
      clear gA gO gC kA kO kC hin q0 q1
      have kN := Blk.new wr #[.string anm, .int .i64 aki, .int .i64 o0, .int .i64 o1, .int .i64 c0, .int .i64 c1] 87
      have hBw := bwA (Below.refl wr.heap.size wr) (Nat.le_refl _) (.cells #[.string anm, .int .i64 aki, .int .i64 o0, .int .i64 o1, .int .i64 c0, .int .i64 c1] 87)
      go_upto_region 7 with fail
      clear a0 a1 a2 a3 a4 a5 ya
      obtain ⟨W9, hW9⟩ : ∃ W, Blk.wld kN = W := ⟨_, rfl⟩
      simp only [Blk.wld] at hW9
      rw [hW9] at kN hBw ⊢
      clear hW9
      obtain ⟨bN, hbN⟩ : ∃ b, wr.heap.size = b := ⟨_, rfl⟩
      have zN : wr.heap.size ≤ bN := by omega
      simp only [hbN] at kN ⊢
      clear hbN
      refine wp_region_held_drew (S := (fun wx => Below wr.heap.size wr wx ∧ Blk wx bN #[.string anm, .int .i64 aki, .int .i64 o0, .int .i64 o1, .int .i64 c0, .int .i64 c1] 87)) (by kernel_rfl) ?_ (fun hH => ?_)
      · (try dsimp only); (exact ⟨hBw.drew, kN.drew⟩)
      refine tkY 0 (some 49) ?_ ?_ ?_
      rotate_left
      · intro w hS0; (try dsimp only at hS0); obtain ⟨kW, kN⟩ := hS0; obtain ⟨q0, q1⟩ := HC.out _ kW; obtain ⟨-, kT, -⟩ := HQ.out _ (hB.trans (kW.mono hB.size)); have t0 := kT.cell 0 rfl; have t1 := kT.cell 1 rfl; have n2 := kN.cell 2 rfl; have n3 := kN.cell 3 rfl; have n4 := kN.cell 4 rfl; have n5 := kN.cell 5 rfl; have y1 := kN.lt; have y2 := kT.lt; have y3 := World.block_lt_of_cell? _ _ q0; have y4 := World.block_lt_of_cell? _ _ q1;go_simp; (try with_reducible rfl)
      (try simp only [cq])
      refine tkY 1 (some 50) ?_ ?_ ?_
      rotate_left
      · intro w hS0; (try dsimp only at hS0); obtain ⟨kW, kN⟩ := hS0; obtain ⟨q0, q1⟩ := HC.out _ kW; obtain ⟨-, kT, -⟩ := HQ.out _ (hB.trans (kW.mono hB.size)); have t0 := kT.cell 0 rfl; have t1 := kT.cell 1 rfl; have n2 := kN.cell 2 rfl; have n3 := kN.cell 3 rfl; have n4 := kN.cell 4 rfl; have n5 := kN.cell 5 rfl; have y1 := kN.lt; have y2 := kT.lt; have y3 := World.block_lt_of_cell? _ _ q0; have y4 := World.block_lt_of_cell? _ _ q1;go_simp; (try with_reducible rfl)
      (try simp only [cq])
      refine tkY 2 (some 51) ?_ ?_ ?_
      rotate_left
      · intro w _; go_simp; (try with_reducible rfl)
      (try simp only [cq])
      refine tkY 3 (some 52) ?_ ?_ ?_
      rotate_left
      · intro w hS0; (try dsimp only at hS0); obtain ⟨kW, kN⟩ := hS0; obtain ⟨q0, q1⟩ := HC.out _ kW; obtain ⟨-, kT, -⟩ := HQ.out _ (hB.trans (kW.mono hB.size)); have t0 := kT.cell 0 rfl; have t1 := kT.cell 1 rfl; have n2 := kN.cell 2 rfl; have n3 := kN.cell 3 rfl; have n4 := kN.cell 4 rfl; have n5 := kN.cell 5 rfl; have y1 := kN.lt; have y2 := kT.lt; have y3 := World.block_lt_of_cell? _ _ q0; have y4 := World.block_lt_of_cell? _ _ q1;go_simp; (try with_reducible rfl)
      (try simp only [cq])
      refine tkY 4 (some 53) ?_ ?_ ?_
      rotate_left
      · intro w hS0; (try dsimp only at hS0); obtain ⟨kW, kN⟩ := hS0; obtain ⟨q0, q1⟩ := HC.out _ kW; obtain ⟨-, kT, -⟩ := HQ.out _ (hB.trans (kW.mono hB.size)); have t0 := kT.cell 0 rfl; have t1 := kT.cell 1 rfl; have n2 := kN.cell 2 rfl; have n3 := kN.cell 3 rfl; have n4 := kN.cell 4 rfl; have n5 := kN.cell 5 rfl; have y1 := kN.lt; have y2 := kT.lt; have y3 := World.block_lt_of_cell? _ _ q0; have y4 := World.block_lt_of_cell? _ _ q1;go_simp; (try with_reducible rfl)
      (try simp only [cq])
      refine tkY 5 (some 54) ?_ ?_ ?_
      rotate_left
      · intro w hS0; (try dsimp only at hS0); obtain ⟨kW, kN⟩ := hS0; obtain ⟨q0, q1⟩ := HC.out _ kW; obtain ⟨-, kT, -⟩ := HQ.out _ (hB.trans (kW.mono hB.size)); have t0 := kT.cell 0 rfl; have t1 := kT.cell 1 rfl; have n2 := kN.cell 2 rfl; have n3 := kN.cell 3 rfl; have n4 := kN.cell 4 rfl; have n5 := kN.cell 5 rfl; have y1 := kN.lt; have y2 := kT.lt; have y3 := World.block_lt_of_cell? _ _ q0; have y4 := World.block_lt_of_cell? _ _ q1;go_simp; (try with_reducible rfl)
      (try simp only [cq])
      refine tkY 6 (some 55) ?_ ?_ ?_
      rotate_left
      · intro w hS0; (try dsimp only at hS0); obtain ⟨kW, kN⟩ := hS0; obtain ⟨q0, q1⟩ := HC.out _ kW; obtain ⟨-, kT, -⟩ := HQ.out _ (hB.trans (kW.mono hB.size)); have t0 := kT.cell 0 rfl; have t1 := kT.cell 1 rfl; have n2 := kN.cell 2 rfl; have n3 := kN.cell 3 rfl; have n4 := kN.cell 4 rfl; have n5 := kN.cell 5 rfl; have y1 := kN.lt; have y2 := kT.lt; have y3 := World.block_lt_of_cell? _ _ q0; have y4 := World.block_lt_of_cell? _ _ q1;go_simp; (try with_reducible rfl)
      (try simp only [cq])
      refine tkY 8 (some 57) ?_ ?_ ?_
      rotate_left
      · intro w hS0; (try dsimp only at hS0); obtain ⟨kW, kN⟩ := hS0; obtain ⟨q0, q1⟩ := HC.out _ kW; obtain ⟨-, kT, -⟩ := HQ.out _ (hB.trans (kW.mono hB.size)); have t0 := kT.cell 0 rfl; have t1 := kT.cell 1 rfl; have n2 := kN.cell 2 rfl; have n3 := kN.cell 3 rfl; have n4 := kN.cell 4 rfl; have n5 := kN.cell 5 rfl; have y1 := kN.lt; have y2 := kT.lt; have y3 := World.block_lt_of_cell? _ _ q0; have y4 := World.block_lt_of_cell? _ _ q1;go_simp; (try with_reducible rfl)
      (try simp only [cq])
      refine tkY 9 (some 58) ?_ ?_ ?_
      rotate_left
      · intro w hS0; (try dsimp only at hS0); obtain ⟨kW, kN⟩ := hS0; obtain ⟨q0, q1⟩ := HC.out _ kW; obtain ⟨-, kT, -⟩ := HQ.out _ (hB.trans (kW.mono hB.size)); have t0 := kT.cell 0 rfl; have t1 := kT.cell 1 rfl; have n2 := kN.cell 2 rfl; have n3 := kN.cell 3 rfl; have n4 := kN.cell 4 rfl; have n5 := kN.cell 5 rfl; have y1 := kN.lt; have y2 := kT.lt; have y3 := World.block_lt_of_cell? _ _ q0; have y4 := World.block_lt_of_cell? _ _ q1;go_simp; (try with_reducible rfl)
      (try simp only [cq])
      refine tkY 10 (some 59) ?_ ?_ ?_
      rotate_left
      · intro w _; go_simp; (try with_reducible rfl)
      (try simp only [cq])
      refine tkY 11 (some 60) ?_ ?_ ?_
      rotate_left
      · intro w hS0; (try dsimp only at hS0); obtain ⟨kW, kN⟩ := hS0; obtain ⟨q0, q1⟩ := HC.out _ kW; obtain ⟨-, kT, -⟩ := HQ.out _ (hB.trans (kW.mono hB.size)); have t0 := kT.cell 0 rfl; have t1 := kT.cell 1 rfl; have n2 := kN.cell 2 rfl; have n3 := kN.cell 3 rfl; have n4 := kN.cell 4 rfl; have n5 := kN.cell 5 rfl; have y1 := kN.lt; have y2 := kT.lt; have y3 := World.block_lt_of_cell? _ _ q0; have y4 := World.block_lt_of_cell? _ _ q1;go_simp; (try with_reducible rfl)
      (try simp only [cq])
      refine tkY 12 (some 61) ?_ ?_ ?_
      rotate_left
      · intro w hS0; (try dsimp only at hS0); obtain ⟨kW, kN⟩ := hS0; obtain ⟨q0, q1⟩ := HC.out _ kW; obtain ⟨-, kT, -⟩ := HQ.out _ (hB.trans (kW.mono hB.size)); have t0 := kT.cell 0 rfl; have t1 := kT.cell 1 rfl; have n2 := kN.cell 2 rfl; have n3 := kN.cell 3 rfl; have n4 := kN.cell 4 rfl; have n5 := kN.cell 5 rfl; have y1 := kN.lt; have y2 := kT.lt; have y3 := World.block_lt_of_cell? _ _ q0; have y4 := World.block_lt_of_cell? _ _ q1;go_simp; (try with_reducible rfl)
      (try simp only [cq])
      refine tkY 13 (some 62) ?_ ?_ ?_
      rotate_left
      · intro w hS0; (try dsimp only at hS0); obtain ⟨kW, kN⟩ := hS0; obtain ⟨q0, q1⟩ := HC.out _ kW; obtain ⟨-, kT, -⟩ := HQ.out _ (hB.trans (kW.mono hB.size)); have t0 := kT.cell 0 rfl; have t1 := kT.cell 1 rfl; have n2 := kN.cell 2 rfl; have n3 := kN.cell 3 rfl; have n4 := kN.cell 4 rfl; have n5 := kN.cell 5 rfl; have y1 := kN.lt; have y2 := kT.lt; have y3 := World.block_lt_of_cell? _ _ q0; have y4 := World.block_lt_of_cell? _ _ q1;go_simp; (try with_reducible rfl)
      (try simp only [cq])
      refine tkY 14 (some 63) ?_ ?_ ?_
      rotate_left
      · intro w hS0; (try dsimp only at hS0); obtain ⟨kW, kN⟩ := hS0; obtain ⟨q0, q1⟩ := HC.out _ kW; obtain ⟨-, kT, -⟩ := HQ.out _ (hB.trans (kW.mono hB.size)); have t0 := kT.cell 0 rfl; have t1 := kT.cell 1 rfl; have n2 := kN.cell 2 rfl; have n3 := kN.cell 3 rfl; have n4 := kN.cell 4 rfl; have n5 := kN.cell 5 rfl; have y1 := kN.lt; have y2 := kT.lt; have y3 := World.block_lt_of_cell? _ _ q0; have y4 := World.block_lt_of_cell? _ _ q1;go_simp; (try with_reducible rfl)
      (try simp only [cq])
      refine wpAnyH_ready (rs := [7]) (by kernel_rfl) (by simp) ?_
      refine arc1 (some 56) fun K hK => ?_
      go_simp
      (refine (W1.out _).mono ?_; rintro e w' ⟨rfl, hb⟩)
      refine hK.out _ _ ?_ ?_
      · (first | exact hH | exact ⟨bwS hH.1 (Nat.le_refl _) hb, hH.2.call hb⟩)
      (try clear hb)
      intro hH
      clear hK K
      (try simp only [cq])
      refine wpAnyH_ready (rs := [15]) (by kernel_rfl) (by simp) ?_
      refine arc1 (some 64) fun K hK => ?_
      go_simp
      (refine (W2.out _).mono ?_; rintro e w' ⟨rfl, hb⟩)
      refine hK.out _ _ ?_ ?_
      · (first | exact hH | exact ⟨bwS hH.1 (Nat.le_refl _) hb, hH.2.call hb⟩)
      (try clear hb)
      intro hH
      clear hK K
      (try simp only [cq])
      refine wpAnyH_ready (rs := [16]) (by kernel_rfl) (by simp) ?_
      refine arc1 (some 65) fun K hK => ?_
      go_simp
      refine hK.out _ _ ?_ ?_
      · exact ⟨bwA hH.1 (Nat.le_refl _) _, hH.2.alloc _⟩
      (try clear hb)
      intro hH
      clear hK K
      (try simp only [cq])
      refine wpAnyH_ready (rs := [17]) (by kernel_rfl) (by simp) ?_
      refine arc1 (some 66) fun K hK => ?_
      go_simp
      (refine (first_two _ _ 0 0 _ (by first | (simp; done) | (go_simp; done) | (go_keep; done)) (by first | (simp; done) | (go_simp; done) | (go_keep; done))).mono ?_; rintro e w' ⟨rfl, rfl⟩)
      refine hK.out _ _ ?_ ?_
      · (first | exact hH | exact ⟨bwS hH.1 (Nat.le_refl _) hb, hH.2.call hb⟩)
      (try clear hb)
      intro hH
      clear hK K
      (try simp only [cq])
      refine tkY 18 (some 8) ?_ ?_ ?_
      rotate_left
      · intro w _; go_simp; (try with_reducible rfl)
      (try simp only [cq])
      refine wpAnyH_done (by kernel_rfl) ?_ _
      (try dsimp only [Act.put])
      (try simp only [cq])
      have hB2 : Below V.heap.size V _ := hB.trans (hH.1.mono hB.size)
      clear hH hB HC W1 W2 kN hBw
      have eo : orE 0 0 = 0 := rfl
      rw [eo]
      clear eo
      go_wp2
      go_roundw
      case rel => exact ⟨k + 1, by go_num, by omega, hB2⟩
      case measure => simp [intOf]; omega
    · obtain rfl : k = n := by omega
      obtain ⟨kB, -, -⟩ := HT.out _ hB
      obtain ⟨b0, b1⟩ := kB.c2
      go_wp2_with fail
      clear kB b0 b1
      go_loopw [74] (fun i wr => ∃ j : Nat, i = .int .i64 j ∧ j ≤ m ∧ Below V.heap.size V wr) (fun i _ => m - (intOf i).toNat)
      case atStart => exact ⟨0, rfl, Nat.zero_le _, hB⟩
      case round =>
        clear hB
        obtain ⟨j, rfl, hj, hB⟩ := hrel
        by_cases hlt : j < m
        · have hltI : (j : Int) < m := by omega
          have HQ := Lib.hid (fun (W : World) (h : Below V.heap.size V W) => (HT.out W h))
          obtain ⟨-, -, -, ⟨_, _, ea, -, -, gA⟩, -, -, ⟨_, _, ec, -, -, gC⟩⟩ := HT.out _ hB
          simp only [Value.slice.injEq] at ea ec
          obtain ⟨rfl, -, rfl⟩ := ea
          obtain ⟨rfl, -, rfl⟩ := ec
          obtain ⟨bA, oA, rfl, kA⟩ := gA (by omega)
          obtain ⟨bC, oC, rfl, kC⟩ := gC (by omega)
          obtain ⟨a0, a1, a2, a3⟩ := AtC.c4 (show AtC wr bA oA m 4 (mvC M) from kA) hlt rfl
          have q1 := AtC.c1 (show AtC wr bC oC m 1 (inC X) from kC) hlt rfl
          have hin := hM1 j hlt
          generalize (M j).fr = fr at a0
          generalize (M j).tt = tt at a1
          generalize (M j).lo = lo at a2 hin
          generalize (M j).hi = hi at a3 hin
          generalize X j = x at q1 hin
          have W1 := Lib.hid (fun (W : World) => fwithin_ok x lo hi hin.1 hin.2 W)
          have ya := World.block_lt_of_cell? _ _ a0
          have HC := Lib.hid (fun (W : World) (h : Below wr.heap.size wr W) => cell_later h q1)
          clear gA gC kA kC hin q1
          have kN := Blk.new wr #[.int .i64 fr, .int .i64 tt, .int .i64 lo, .int .i64 hi] 68
          have hBw := bwA (Below.refl wr.heap.size wr) (Nat.le_refl _) (.cells #[.int .i64 fr, .int .i64 tt, .int .i64 lo, .int .i64 hi] 68)
          go_upto_region 14 with fail
          clear a0 a1 a2 a3 ya
          obtain ⟨W9, hW9⟩ : ∃ W, Blk.wld kN = W := ⟨_, rfl⟩
          simp only [Blk.wld] at hW9
          rw [hW9] at kN hBw ⊢
          clear hW9
          obtain ⟨bN, hbN⟩ : ∃ b, wr.heap.size = b := ⟨_, rfl⟩
          simp only [hbN] at kN ⊢
          clear hbN
          refine wp_region_held_drew (S := (fun wx => Below wr.heap.size wr wx ∧ Blk wx bN #[.int .i64 fr, .int .i64 tt, .int .i64 lo, .int .i64 hi] 68)) (by kernel_rfl) ?_ (fun hH => ?_)
          · (try dsimp only); (exact ⟨hBw.drew, kN.drew⟩)
          refine tkY 0 (some 79) ?_ ?_ ?_
          rotate_left
          · intro w hS0; (try dsimp only at hS0); obtain ⟨kW, kN⟩ := hS0; have q1 := HC.out _ kW; obtain ⟨-, kT, -⟩ := HQ.out _ (hB.trans (kW.mono hB.size)); have t2 := kT.cell 2 rfl; have n2 := kN.cell 2 rfl; have n3 := kN.cell 3 rfl; have y1 := kN.lt; have y2 := kT.lt; have y3 := World.block_lt_of_cell? _ _ q1;go_simp; (try with_reducible rfl)
          (try simp only [cq])
          refine tkY 1 (some 80) ?_ ?_ ?_
          rotate_left
          · intro w hS0; (try dsimp only at hS0); obtain ⟨kW, kN⟩ := hS0; have q1 := HC.out _ kW; obtain ⟨-, kT, -⟩ := HQ.out _ (hB.trans (kW.mono hB.size)); have t2 := kT.cell 2 rfl; have n2 := kN.cell 2 rfl; have n3 := kN.cell 3 rfl; have y1 := kN.lt; have y2 := kT.lt; have y3 := World.block_lt_of_cell? _ _ q1;go_simp; (try with_reducible rfl)
          (try simp only [cq])
          refine tkY 2 (some 81) ?_ ?_ ?_
          rotate_left
          · intro w _; go_simp; (try with_reducible rfl)
          (try simp only [cq])
          refine tkY 3 (some 82) ?_ ?_ ?_
          rotate_left
          · intro w hS0; (try dsimp only at hS0); obtain ⟨kW, kN⟩ := hS0; have q1 := HC.out _ kW; obtain ⟨-, kT, -⟩ := HQ.out _ (hB.trans (kW.mono hB.size)); have t2 := kT.cell 2 rfl; have n2 := kN.cell 2 rfl; have n3 := kN.cell 3 rfl; have y1 := kN.lt; have y2 := kT.lt; have y3 := World.block_lt_of_cell? _ _ q1;go_simp; (try with_reducible rfl)
          (try simp only [cq])
          refine tkY 4 (some 83) ?_ ?_ ?_
          rotate_left
          · intro w hS0; (try dsimp only at hS0); obtain ⟨kW, kN⟩ := hS0; have q1 := HC.out _ kW; obtain ⟨-, kT, -⟩ := HQ.out _ (hB.trans (kW.mono hB.size)); have t2 := kT.cell 2 rfl; have n2 := kN.cell 2 rfl; have n3 := kN.cell 3 rfl; have y1 := kN.lt; have y2 := kT.lt; have y3 := World.block_lt_of_cell? _ _ q1;go_simp; (try with_reducible rfl)
          (try simp only [cq])
          refine tkY 5 (some 84) ?_ ?_ ?_
          rotate_left
          · intro w hS0; (try dsimp only at hS0); obtain ⟨kW, kN⟩ := hS0; have q1 := HC.out _ kW; obtain ⟨-, kT, -⟩ := HQ.out _ (hB.trans (kW.mono hB.size)); have t2 := kT.cell 2 rfl; have n2 := kN.cell 2 rfl; have n3 := kN.cell 3 rfl; have y1 := kN.lt; have y2 := kT.lt; have y3 := World.block_lt_of_cell? _ _ q1;go_simp; (try with_reducible rfl)
          (try simp only [cq])
          refine tkY 6 (some 85) ?_ ?_ ?_
          rotate_left
          · intro w hS0; (try dsimp only at hS0); obtain ⟨kW, kN⟩ := hS0; have q1 := HC.out _ kW; obtain ⟨-, kT, -⟩ := HQ.out _ (hB.trans (kW.mono hB.size)); have t2 := kT.cell 2 rfl; have n2 := kN.cell 2 rfl; have n3 := kN.cell 3 rfl; have y1 := kN.lt; have y2 := kT.lt; have y3 := World.block_lt_of_cell? _ _ q1;go_simp; (try with_reducible rfl)
          (try simp only [cq])
          refine wpAnyH_ready (rs := [7]) (by kernel_rfl) (by simp) ?_
          refine arc1 (some 86) fun K hK => ?_
          go_simp
          (refine (W1.out _).mono ?_; rintro e w' ⟨rfl, hb⟩)
          refine hK.out _ _ ?_ (fun hH => ?_)
          · (exact ⟨bwS hH.1 (Nat.le_refl _) hb, hH.2.call hb⟩)
          clear hK K
          (try simp only [cq])
          refine tkY 8 (some 11) ?_ ?_ ?_
          rotate_left
          · intro w _; go_simp; (try with_reducible rfl)
          (try simp only [cq])
          refine wpAnyH_done (by kernel_rfl) ?_ _
          (try dsimp only [Act.put])
          (try simp only [cq])
          have hB2 : Below V.heap.size V _ := hB.trans (hH.1.mono hB.size)
          clear hH hB HC W1 kN hBw
          go_wp2
          go_roundw
          case rel => exact ⟨j + 1, by go_num, by omega, hB2⟩
          case measure => simp [intOf]; omega
        · obtain rfl : j = m := by omega
          have hJ : Below w.heap.size w _ := HJ.out.trans (hB.mono zV)
          clear hB
          go_wp2
          go_ret
          exact ⟨rfl, hJ⟩
end Go.Proofs.Ytpeogfcfiabcfaa

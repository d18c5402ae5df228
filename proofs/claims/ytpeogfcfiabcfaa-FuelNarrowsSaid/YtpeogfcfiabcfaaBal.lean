/-
  Check and Balance (package fuel) of a truth of a book.
-/
import Derived.Test.YtpeogfcfiabcfaaTail
import Derived.Test.YtpeogfcfiabcfaaCtr
set_option linter.unusedVariables false
set_option linter.unusedSimpArgs false
namespace Go.Proofs.Ytpeogfcfiabcfaa
open Go.RowKit

set_option maxRecDepth 100000 in
theorem check_ok (n : Nat) (A : Nat → Ac) (m : Nat) (M : Nat → Mv) (vA vM : Value) (w : World) (hn : n ≤ 8) (hm : m ≤ 30) (hM0 : ∀ i, i < m → 0 ≤ (M i).fr ∧ 0 ≤ (M i).tt) (hA : AcsAt w vA n A) (hM : MvsAt w vM m M) (hs : NmOk n A) (hR : eRows n A m M = 0)
    (hE : FlOk (flE n A m M) (flN n m)) (hC : CutS (flE n A m M) (flN n m) (2 ^ (n + 1))) :
    Calls Try.prog 33 #[.agg #[vA, vM]] w fun e w' => e = .returned (.int .i64 0) ∧ Below w.heap.size w w' := by
  have HK := Lib.hid (fun (W : World) (h : Below w.heap.size w W) => known_ok n A m M vA vM W hn hm hM0 (hA.later h) (hM.later h) hs hR hE hC)
  obtain ⟨aA, cA, rfl, -, -, -⟩ := hA
  obtain ⟨aM, cM, rfl, -, -, -⟩ := hM
  clear hs hR hE hC hM0
  have jB := Blk.new w #[.slice aA n cA, .slice aM m cM] 44
  have kB : Below w.heap.size w (w.alloc (.cells #[.slice aA n cA, .slice aM m cM] 44)) := by (repeat (first | exact Below.refl _ _ | assumption | refine Below.drew ?_ | refine Below.drewN ?_ _ | refine blT ?_ | refine blU ?_))
  obtain ⟨c0, c1⟩ := jB.c2
  go_enter Try.func33, Try.ntmps33
  go_wp2_with fail
  refine (HK.out _ kB).mono ?_
  rintro e w2 ⟨bk, cap, rfl, -, -, -, -, hb⟩
  replace kB := bwS kB (Nat.le_refl _) hb
  clear hb HK
  go_wp2
  go_ret
  exact ⟨rfl, kB⟩
set_option maxRecDepth 100000 in
set_option maxHeartbeats 8000000 in
theorem balance_ok (n : Nat) (A : Nat → Ac) (m : Nat) (M : Nat → Mv) (O C X : Nat → Int) (vA vM vO vC vX : Value) (w : World) (h1 : 1 ≤ n) (hn : n ≤ 8) (hm : m ≤ 30) (hA : AcsAt w vA n A) (hMv : MvsAt w vM m M) (hOv : IntsAt w vO n O) (hCv : IntsAt w vC n C) (hXv : IntsAt w vX m X) (hs : NmOk n A) (hR : eRows n A m M = 0)
    (hE : FlOk (flE n A m M) (flN n m)) (hC : CutS (flE n A m M) (flN n m) (2 ^ (n + 1)))
    (hA1 : ∀ i, i < n → (A i).o0 ≤ O i ∧ O i ≤ (A i).o1 ∧ (A i).c0 ≤ C i ∧ C i ≤ (A i).c1) (hM1 : ∀ i, i < m → (M i).lo ≤ X i ∧ X i ≤ (M i).hi)
    (hO : ∀ i, -10000000000 ≤ O i - C i ∧ O i - C i ≤ 10000000000) (hOb : ∀ i, -10000000000 ≤ O i ∧ O i ≤ 10000000000 ∧ -10000000000 ≤ C i ∧ C i ≤ 10000000000) (hX : ∀ i, i < m → 0 ≤ X i ∧ X i ≤ 10000000000)
    (hM : ∀ i, i < m → 0 ≤ (M i).fr ∧ (M i).fr < n ∧ 0 ≤ (M i).tt ∧ (M i).tt < n) (hl : ∀ i, i < n → 0 ≤ lsn O C M X m i ∧ lsn O C M X m i ≤ losH (A i).ki) :
    Calls Try.prog 31 #[.agg #[vA, vM], .agg #[vO, vC, vX]] w fun e w' => ∃ v, e = .returned (.tuple #[v, .int .i64 0]) ∧ w'.ownsRow w.heap.size 3 1 v n (catC (inC (lsn O C M X m)) n) ∧ Below w.heap.size w w' := by
  have K1 := Lib.hid (fun (W : World) (h : Below w.heap.size w W) => check_ok n A m M vA vM W hn hm (fun i hi => ⟨(hM i hi).1, (hM i hi).2.2.1⟩) (hA.later h) (hMv.later h) hs hR hE hC)
  have K2 := Lib.hid (fun (W : World) (h : Below w.heap.size w W) => ctruth_ok n m A M O C X vA vM vO vC vX (by omega) (by omega) hA1 hM1 W (hA.later h) (hMv.later h) (hOv.later h) (hCv.later h) (hXv.later h))
  have K3 := Lib.hid (fun (W : World) (h : Below w.heap.size w W) => lost_any n m A M O C X vA vM vO vC vX h1 (by omega) (by omega) hO hOb hX hM W (hA.later h) (hMv.later h) (hOv.later h) (hCv.later h) (hXv.later h))
  have HA := Lib.hid (fun (W : World) (h : Below w.heap.size w W) => hA.later h)
  have HL := Lib.hid hl
  obtain ⟨aA, cA, rfl, -, -, -⟩ := hA
  obtain ⟨aM, cM, rfl, -, -, -⟩ := hMv
  obtain ⟨aO, cO, rfl, -, -, -⟩ := hOv
  obtain ⟨aC, cC, rfl, -, -, -⟩ := hCv
  obtain ⟨aX, cX, rfl, -, -, -⟩ := hXv
  clear hs hR hE hC hA1 hM1 hO hOb hX hM hl
  have jB := (Blk.new w #[.slice aA n cA, .slice aM m cM] 44).alloc (.cells #[.slice aO n cO, .slice aC n cC, .slice aX m cX] 46)
  have jT := Blk.new1 w (.cells #[.slice aA n cA, .slice aM m cM] 44) #[.slice aO n cO, .slice aC n cC, .slice aX m cX] 46
  have kB : Below w.heap.size w ((w.alloc (.cells #[.slice aA n cA, .slice aM m cM] 44)).alloc (.cells #[.slice aO n cO, .slice aC n cC, .slice aX m cX] 46)) := by (repeat (first | exact Below.refl _ _ | assumption | refine Below.drew ?_ | refine Below.drewN ?_ _ | refine blT ?_ | refine blU ?_))
  have e0 : ((0 : Int) != 0) = false := by decide
  obtain ⟨b0, b1⟩ := jB.c2
  go_enter Try.func31, Try.ntmps31
  go_wp2_with fail
  clear b0 b1
  refine (K1.out _ kB).mono ?_
  rintro e w2 ⟨rfl, hb⟩
  replace jB := jB.call hb
  replace jT := jT.call hb
  replace kB := bwS kB (Nat.le_refl _) hb
  clear hb K1
  obtain ⟨b0, b1⟩ := jB.c2
  have t0 := jT.cell 0 rfl
  have t1 := jT.cell 1 rfl
  have t2 := jT.cell 2 rfl
  go_wp2_with fail
  clear b0 b1 t0 t1 t2
  refine (K2.out _ kB).mono ?_
  rintro e w3 ⟨rfl, hb⟩
  replace jB := jB.call hb
  replace jT := jT.call hb
  replace kB := bwS kB (Nat.le_refl _) hb
  clear hb K2
  obtain ⟨b0, b1⟩ := jB.c2
  have t0 := jT.cell 0 rfl
  have t1 := jT.cell 1 rfl
  have t2 := jT.cell 2 rfl
  go_wp2_with fail
  clear b0 b1 t0 t1 t2
  refine (K3.out _ kB).mono ?_
  rintro e w4 ⟨v, rfl, rL, hb⟩
  have zr := kB.size
  replace jB := jB.call hb
  replace jT := jT.call hb
  replace kB := bwS kB (Nat.le_refl _) hb
  clear hb K3
  obtain ⟨g, cL, hvL, -, -⟩ := rL.form (by omega)
  subst hvL
  obtain ⟨b0, b1⟩ := jB.c2
  go_wp2_with fail
  clear b0 b1
  have HR := Lib.hid (And.intro rL kB)
  go_loopw [30] (fun i wr => ∃ k : Nat, i = .int .i64 k ∧ k ≤ n ∧ Below w4.heap.size w4 wr) (fun i _ => n - (intOf i).toNat)
  case atStart => exact ⟨0, rfl, Nat.zero_le _, Below.refl _ _⟩
  case round =>
    clear rL kB jB jT
    obtain ⟨k, rfl, hk, hB⟩ := hrel
    by_cases hlt : k < n
    · have hltI : (k : Int) < n := by omega
      obtain ⟨_, _, ea, -, -, gA⟩ := HA.out _ (HR.out.2.trans (hB.mono HR.out.2.size))
      simp only [Value.slice.injEq] at ea
      obtain ⟨rfl, -, rfl⟩ := ea
      obtain ⟨bA, oA, rfl, kA⟩ := gA (by omega)
      obtain ⟨a0, a1, a2, a3, a4, a5⟩ := AtC.c6 (show AtC wr bA oA n 6 (acC A) from kA) hlt rfl
      have hin := HL.out k hlt
      have q0 := row_int (row_call HR.out.1 hB) hlt
      generalize (A k).nm = anm at a0
      generalize (A k).ki = aki at a1 hin
      generalize (A k).o0 = o0 at a2
      generalize (A k).o1 = o1 at a3
      generalize (A k).c0 = c0 at a4
      generalize (A k).c1 = c1 at a5
      generalize lsn O C M X m k = x at hin q0
      have ya := World.block_lt_of_cell? _ _ a0
      have hBw := bwA (Below.refl wr.heap.size wr) (Nat.le_refl _) (.cells #[.string anm, .int .i64 aki, .int .i64 o0, .int .i64 o1, .int .i64 c0, .int .i64 c1] 87)
      have kN := Blk.new wr #[.string anm, .int .i64 aki, .int .i64 o0, .int .i64 o1, .int .i64 c0, .int .i64 c1] 87
      obtain ⟨n0, n1⟩ : (wr.alloc (.cells #[.string anm, .int .i64 aki, .int .i64 o0, .int .i64 o1, .int .i64 c0, .int .i64 c1] 87)).cell? ⟨wr.heap.size, 0, none⟩ = _ ∧ (wr.alloc (.cells #[.string anm, .int .i64 aki, .int .i64 o0, .int .i64 o1, .int .i64 c0, .int .i64 c1] 87)).cell? ⟨wr.heap.size, 1, none⟩ = _ := ⟨kN.cell 0 rfl, kN.cell 1 rfl⟩
      go_wp2_with fail
      clear a0 a1 a2 a3 a4 a5 n0 n1 ya
      refine (losable_any aki _).mono ?_
      rintro e w5 ⟨rfl, hb⟩
      generalize losH aki = z at hin ⊢
      have hBx : Below wr.heap.size wr w5 := bwS hBw (Nat.le_refl _) hb
      clear hb hBw kN
      have kP := Blk.new w5 #[.int .i64 0, .int .i64 z] 26
      have hBy := bwA hBx (Nat.le_refl _) (.cells #[.int .i64 0, .int .i64 z] 26)
      go_upto_region 12 with fail
      obtain ⟨W9, hW9⟩ : ∃ W, Blk.wld kP = W := ⟨_, rfl⟩
      simp only [Blk.wld] at hW9
      rw [hW9] at kP hBy ⊢
      clear hW9
      obtain ⟨bP, hbP⟩ : ∃ b, w5.heap.size = b := ⟨_, rfl⟩
      rw [hbP] at kP ⊢
      clear hbP hBx
      have q9 := cell_later hBy q0
      have HV := Lib.hid (fun (W : World) (h : Below W9.heap.size W9 W) => And.intro (kP.call h) (cell_later h q9))
      have e1 : decide (0 ≤ x) = true := decide_eq_true hin.1
      have e2 : decide (x ≤ z) = true := decide_eq_true hin.2
      have CL := Lib.hid (fun (W : World) => (show Calls Try.prog 85 #[.bool true] W fun e w' => e = .returned (.int .i64 0) ∧ W = w' from (clash_any true W).mono fun e w' h => ⟨h.1, h.2⟩))
      clear q9 kP q0 hin
      refine wp_region_held_drew (S := (fun wx => Below W9.heap.size W9 wx)) (by kernel_rfl) ?_ (fun hH => ?_)
      · (try dsimp only); (exact (Below.refl _ _).drew)
      refine tkY 0 (some 38) ?_ ?_ ?_
      rotate_left
      · intro w hS0; (try dsimp only at hS0); obtain ⟨kP, q0⟩ := HV.out _ hS0; obtain ⟨p0, p1⟩ := kP.c2; have y1 := kP.lt; have y2 := World.block_lt_of_cell? _ _ q0;go_simp; (try with_reducible rfl)
      (try simp only [cq])
      refine tkY 1 (some 39) ?_ ?_ ?_
      rotate_left
      · intro w hS0; (try dsimp only at hS0); obtain ⟨kP, q0⟩ := HV.out _ hS0; obtain ⟨p0, p1⟩ := kP.c2; have y1 := kP.lt; have y2 := World.block_lt_of_cell? _ _ q0;go_simp; (try with_reducible rfl)
      (try simp only [cq])
      refine tkY 2 (some 40) ?_ ?_ ?_
      rotate_left
      · intro w _; go_simp; (try with_reducible rfl)
      (try simp only [cq])
      refine tkY 3 (some 41) ?_ ?_ ?_
      rotate_left
      · intro w _; go_simp; (try with_reducible rfl)
      (try simp only [cq])
      refine tkY 4 (some 42) ?_ ?_ ?_
      rotate_left
      · intro w hS0; (try dsimp only at hS0); obtain ⟨kP, q0⟩ := HV.out _ hS0; obtain ⟨p0, p1⟩ := kP.c2; have y1 := kP.lt; have y2 := World.block_lt_of_cell? _ _ q0;go_simp; (try with_reducible rfl)
      (try simp only [cq])
      refine tkY 5 (some 43) ?_ ?_ ?_
      rotate_left
      · intro w hS0; (try dsimp only at hS0); obtain ⟨kP, q0⟩ := HV.out _ hS0; obtain ⟨p0, p1⟩ := kP.c2; have y1 := kP.lt; have y2 := World.block_lt_of_cell? _ _ q0;go_simp; (try with_reducible rfl)
      (try simp only [cq])
      refine tkY 6 (some 44) ?_ ?_ ?_
      rotate_left
      · intro w _; go_simp; (try with_reducible rfl)
      (try simp only [cq])
      refine tkY 7 (some 45) ?_ ?_ ?_
      rotate_left
      · intro w _; go_simp; (try with_reducible rfl)
      (try simp only [cq])
      refine tkY 8 (some 46) ?_ ?_ ?_
      rotate_left
      · intro w _; go_simp; (try with_reducible rfl)
      (try simp only [cq])
      refine tkY 9 (some 47) ?_ ?_ ?_
      rotate_left
      · intro w _; go_simp; (try with_reducible rfl)
      (try simp only [cq])
      refine tkY 10 (some 48) ?_ ?_ ?_
      rotate_left
      · intro w hS0; (try dsimp only at hS0); obtain ⟨kP, q0⟩ := HV.out _ hS0; obtain ⟨p0, p1⟩ := kP.c2; have y1 := kP.lt; have y2 := World.block_lt_of_cell? _ _ q0;go_simp; (try with_reducible rfl)
      (try simp only [cq])
      refine tkY 11 (some 49) ?_ ?_ ?_
      rotate_left
      · intro w hS0; (try dsimp only at hS0); obtain ⟨kP, q0⟩ := HV.out _ hS0; obtain ⟨p0, p1⟩ := kP.c2; have y1 := kP.lt; have y2 := World.block_lt_of_cell? _ _ q0;go_simp; (try with_reducible rfl)
      (try simp only [cq])
      refine tkY 12 (some 50) ?_ ?_ ?_
      rotate_left
      · intro w hS0; (try dsimp only at hS0); obtain ⟨kP, q0⟩ := HV.out _ hS0; obtain ⟨p0, p1⟩ := kP.c2; have y1 := kP.lt; have y2 := World.block_lt_of_cell? _ _ q0;go_simp; (try with_reducible rfl)
      (try simp only [cq])
      refine tkY 13 (some 51) ?_ ?_ ?_
      rotate_left
      · intro w hS0; (try dsimp only at hS0); obtain ⟨kP, q0⟩ := HV.out _ hS0; obtain ⟨p0, p1⟩ := kP.c2; have y1 := kP.lt; have y2 := World.block_lt_of_cell? _ _ q0;go_simp; (try with_reducible rfl)
      (try simp only [cq])
      refine tkY 14 (some 52) ?_ ?_ ?_
      rotate_left
      · intro w _; go_simp; (try with_reducible rfl)
      (try simp only [cq])
      refine tkY 15 (some 53) ?_ ?_ ?_
      rotate_left
      · intro w _; go_simp; (try with_reducible rfl)
      (try simp only [cq])
      refine wpAnyH_ready (rs := [16]) (by kernel_rfl) (by simp) ?_
      refine arc1 (some 54) fun K hK => ?_
      go_simp
      (refine (CL.out _).mono ?_; rintro e w' ⟨rfl, rfl⟩)
      refine hK.out _ _ ?_ (fun hH => ?_)
      · (exact hH)
      clear hK K
      (try simp only [cq])
      refine tkY 17 (some 12) ?_ ?_ ?_
      rotate_left
      · intro w _; go_simp; (try with_reducible rfl)
      (try simp only [cq])
      refine wpAnyH_done (by kernel_rfl) ?_ _
      (try dsimp only [Act.put])
      (try simp only [cq])
      have hB2 : Below w4.heap.size w4 _ := hB.trans ((hBy.trans (hH.mono hBy.size)).mono hB.size)
      clear hH hB hBy HV
      go_wp2
      go_roundw
      case rel => exact ⟨k + 1, by go_num, by omega, hB2⟩
      case measure => simp [intOf]; omega
    · obtain rfl : k = n := by omega
      have jB2 : Below w.heap.size w _ := HR.out.2.trans (hB.mono HR.out.2.size)
      have rL2 := ownsRow_base (row_call HR.out.1 hB) zr
      clear hB
      go_wp2
      exact bodyPost_ret (v := .tuple #[.slice (some ⟨g, 0, none⟩) k cL, .int .i64 0]) (by simp [results, Try.results31, go_sem]) rfl ⟨_, rfl, rL2, jB2⟩
end Go.Proofs.Ytpeogfcfiabcfaa

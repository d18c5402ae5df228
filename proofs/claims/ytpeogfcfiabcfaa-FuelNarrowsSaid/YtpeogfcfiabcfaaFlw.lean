/-
  All flows of a book (package fuel).
-/
import Derived.Test.YtpeogfcfiabcfaaTail
import Derived.Test.YtpeogfcfiabcfaaRow
import Derived.Test.YtpeogfcfiabcfaaRws
import Derived.Test.YtpeogfcfiabcfaaSum
set_option linter.unusedVariables false
set_option linter.unusedSimpArgs false
namespace Go.Proofs.Ytpeogfcfiabcfaa
open Go.RowKit

def losH (k : Int) : Int := if k = 2 then 0 else 46000000000
theorem losable_any (k : Int) (w : World) :
    Calls Try.prog 84 #[.int .i64 k] w fun e w' => e = .returned (.agg #[.int .i64 0, .int .i64 (losH k)]) ∧ Below w.heap.size w w' := by
  by_cases h : k = 2
  · have H := Lib.hid (show losH k = 0 by unfold losH; rw [if_pos h])
    subst h
    go_enter Try.func84, Try.ntmps84
    go_wp2
    exact bodyPost_ret (v := .agg #[.int .i64 0, .int .i64 0]) (by simp [results, Try.results84, go_sem]) rfl ⟨by rw [H.out], by (repeat (first | exact Below.refl _ _ | assumption | refine Below.drew ?_ | refine Below.drewN ?_ _ | refine blT ?_ | refine blU ?_))⟩
  · have H := Lib.hid (show losH k = 46000000000 by unfold losH; rw [if_neg h])
    have q : (k == 2) = false := by simpa using h
    clear h
    go_enter Try.func84, Try.ntmps84
    go_wp2
    exact bodyPost_ret (v := .agg #[.int .i64 0, .int .i64 46000000000]) (by simp [results, Try.results84, go_sem]) rfl ⟨by rw [H.out], by (repeat (first | exact Below.refl _ _ | assumption | refine Below.drew ?_ | refine Below.drewN ?_ _ | refine blT ?_ | refine blU ?_))⟩

def flE (n : Nat) (A : Nat → Ac) (m : Nat) (M : Nat → Mv) (i : Nat) : Fl :=
  if i < 2 * n then (if i % 2 = 0 then ⟨n + 1, i / 2, (A (i / 2)).o0, (A (i / 2)).o1⟩ else ⟨i / 2, n + 1, (A (i / 2)).c0, (A (i / 2)).c1⟩)
  else if i < 2 * n + m then ⟨(M (i - 2 * n)).fr.toNat, (M (i - 2 * n)).tt.toNat, (M (i - 2 * n)).lo, (M (i - 2 * n)).hi⟩
  else if i < 2 * n + m + n then ⟨i - (2 * n + m), n, 0, losH (A (i - (2 * n + m))).ki⟩
  else ⟨n, n + 1, 0, 46000000000⟩
theorem flE_o (n : Nat) (A : Nat → Ac) (m : Nat) (M : Nat → Mv) (k : Nat) (h : k < n) : flE n A m M (2 * k) = ⟨n + 1, k, (A k).o0, (A k).o1⟩ := by
  unfold flE
  rw [if_pos (by omega), if_pos (by omega), show 2 * k / 2 = k by omega]
theorem flE_c (n : Nat) (A : Nat → Ac) (m : Nat) (M : Nat → Mv) (k : Nat) (h : k < n) : flE n A m M (2 * k + 1) = ⟨k, n + 1, (A k).c0, (A k).c1⟩ := by
  unfold flE
  rw [if_pos (by omega), if_neg (by omega), show (2 * k + 1) / 2 = k by omega]
theorem flE_m (n : Nat) (A : Nat → Ac) (m : Nat) (M : Nat → Mv) (k : Nat) (h : k < m) : flE n A m M (2 * n + k) = ⟨(M k).fr.toNat, (M k).tt.toNat, (M k).lo, (M k).hi⟩ := by
  unfold flE
  rw [if_neg (by omega), if_pos (by omega), show 2 * n + k - 2 * n = k by omega]
theorem flE_l (n : Nat) (A : Nat → Ac) (m : Nat) (M : Nat → Mv) (k : Nat) (h : k < n) : flE n A m M (2 * n + m + k) = ⟨k, n, 0, losH (A k).ki⟩ := by
  unfold flE
  rw [if_neg (by omega), if_neg (by omega), if_pos (by omega), show 2 * n + m + k - (2 * n + m) = k by omega]
theorem flE_z (n : Nat) (A : Nat → Ac) (m : Nat) (M : Nat → Mv) : flE n A m M (2 * n + m + n) = ⟨n, n + 1, 0, 46000000000⟩ := by
  unfold flE
  rw [if_neg (by omega), if_neg (by omega), if_neg (by omega)]
theorem cat_acc (n : Nat) (A : Nat → Ac) (m : Nat) (M : Nat → Mv) (k : Nat) (h : k < n) : catC (flC (flE n A m M)) (2 * (k + 1)) = catC (flC (flE n A m M)) (2 * k) ++ [.int .i64 ((n : Int) + 1), .int .i64 k, .int .i64 (A k).o0, .int .i64 (A k).o1, .int .i64 k, .int .i64 ((n : Int) + 1), .int .i64 (A k).c0, .int .i64 (A k).c1] := by
  rw [show 2 * (k + 1) = 2 * k + 1 + 1 by omega, catC, catC, List.append_assoc]
  simp [flC, flE_o n A m M k h, flE_c n A m M k h]
theorem cat_mov (n : Nat) (A : Nat → Ac) (m : Nat) (M : Nat → Mv) (k : Nat) (h : k < m) (h1 : 0 ≤ (M k).fr) (h2 : 0 ≤ (M k).tt) : catC (flC (flE n A m M)) (2 * n + (k + 1)) = catC (flC (flE n A m M)) (2 * n + k) ++ [.int .i64 (M k).fr, .int .i64 (M k).tt, .int .i64 (M k).lo, .int .i64 (M k).hi] := by
  rw [show 2 * n + (k + 1) = 2 * n + k + 1 by omega, catC]
  simp [flC, flE_m n A m M k h, Int.toNat_of_nonneg h1, Int.toNat_of_nonneg h2]
theorem cat_los (n : Nat) (A : Nat → Ac) (m : Nat) (M : Nat → Mv) (k : Nat) (h : k < n) : catC (flC (flE n A m M)) (2 * n + m + (k + 1)) = catC (flC (flE n A m M)) (2 * n + m + k) ++ [.int .i64 k, .int .i64 n, .int .i64 0, .int .i64 (losH (A k).ki)] := by
  rw [show 2 * n + m + (k + 1) = 2 * n + m + k + 1 by omega, catC]
  simp [flC, flE_l n A m M k h]
theorem cat_all (n : Nat) (A : Nat → Ac) (m : Nat) (M : Nat → Mv) : catC (flC (flE n A m M)) (2 * n + m + n + 1) = catC (flC (flE n A m M)) (2 * n + m + n) ++ [.int .i64 n, .int .i64 ((n : Int) + 1), .int .i64 0, .int .i64 46000000000] := by
  rw [catC]
  simp [flC, flE_z n A m M]
def flN (n m : Nat) : Nat := 2 * n + m + n + 1

set_option maxRecDepth 100000 in
set_option maxHeartbeats 4000000 in
theorem flows_any (n : Nat) (A : Nat → Ac) (m : Nat) (M : Nat → Mv) (vA vM : Value) (w : World) (hn : n ≤ 8) (hm : m ≤ 30) (hM0 : ∀ i, i < m → 0 ≤ (M i).fr ∧ 0 ≤ (M i).tt) (hA : AcsAt w vA n A) (hM : MvsAt w vM m M) :
    Calls Try.prog 125 #[.agg #[vA, vM]] w fun e w' => ∃ v, e = .returned v ∧ w'.ownsRow w.heap.size 145 4 v (flN n m) (catC (flC (flE n A m M)) (flN n m)) ∧ Below w.heap.size w w' := by
  obtain ⟨aA, cA, rfl, h1, h2, h3⟩ := hA
  obtain ⟨aM, cM, rfl, g1, g2, g3⟩ := hM
  have HA := Lib.hid h3
  have HM := Lib.hid g3
  have HM0 := Lib.hid hM0
  clear h3 g3 hM0
  obtain ⟨i0, hi0, hz0, hz1, hz2⟩ := info_parts Try.infoFlow
  obtain ⟨R, hR⟩ : ∃ R : Nat → List Value, R = catC (flC (flE n A m M)) := ⟨_, rfl⟩
  have HR0 : Hid (R 0 = []) := by rw [hR]; rfl
  have HRa : Hid (∀ k, k < n → R (2 * (k + 1)) = R (2 * k) ++ [.int .i64 ((n : Int) + 1), .int .i64 k, .int .i64 (A k).o0, .int .i64 (A k).o1, .int .i64 k, .int .i64 ((n : Int) + 1), .int .i64 (A k).c0, .int .i64 (A k).c1]) := fun k hk => by rw [hR]; exact cat_acc n A m M k hk
  have HRm : Hid (∀ k, k < m → R (2 * n + (k + 1)) = R (2 * n + k) ++ [.int .i64 (M k).fr, .int .i64 (M k).tt, .int .i64 (M k).lo, .int .i64 (M k).hi]) := fun k hk => by rw [hR]; exact cat_mov n A m M k hk (HM0.out k hk).1 (HM0.out k hk).2
  have HRl : Hid (∀ k, k < n → R (2 * n + m + (k + 1)) = R (2 * n + m + k) ++ [.int .i64 k, .int .i64 n, .int .i64 0, .int .i64 (losH (A k).ki)]) := fun k hk => by rw [hR]; exact cat_los n A m M k hk
  have HRz : Hid (R (2 * n + m + n + 1) = R (2 * n + m + n) ++ [.int .i64 n, .int .i64 ((n : Int) + 1), .int .i64 0, .int .i64 46000000000]) := by rw [hR]; exact cat_all n A m M
  unfold flN
  rw [← hR]
  clear hR HM0
  have jX := Blk.new w #[.slice aA n cA, .slice aM m cM] 44
  have jB : Below w.heap.size w (w.alloc (.cells #[.slice aA n cA, .slice aM m cM] 44)) := by (repeat (first | exact Below.refl _ _ | assumption | refine Below.drew ?_ | refine Below.drewN ?_ _ | refine blT ?_ | refine blU ?_))
  have jR : (w.alloc (.cells #[.slice aA n cA, .slice aM m cM] 44)).ownsRow w.heap.size 145 4 (.slice none 0 0) 0 (R 0) := by rw [HR0.out]; exact World.ownsRow_nil _ _ _ _
  go_enter Try.func125, Try.ntmps125
  go_wp2
  go_loopw [5, 20] (fun l i wr => ∃ k : Nat, k ≤ n ∧ i = .int .i64 k ∧ wr.ownsRow w.heap.size 145 4 l (2 * k) (R (2 * k)) ∧ Blk wr w.heap.size #[.slice aA n cA, .slice aM m cM] 44 ∧ Below w.heap.size w wr) (fun _ i _ => n - (intOf i).toNat)
  case atStart => exact ⟨0, Nat.zero_le _, rfl, jR, jX, jB⟩
  case round =>
    clear jX jB jR
    obtain ⟨k, hk, rfl, jR, jX, jB⟩ := hrel
    by_cases hlt : k < n
    · obtain ⟨b, o, rfl, hc⟩ := HA.out (by omega)
      obtain ⟨a0, a1, a2, a3, a4, a5⟩ := AtC.c6 hc hlt rfl
      replace a0 := cell_later jB a0
      replace a1 := cell_later jB a1
      replace a2 := cell_later jB a2
      replace a3 := cell_later jB a3
      replace a4 := cell_later jB a4
      replace a5 := cell_later jB a5
      have hbs := World.block_lt_of_cell? _ _ a0
      have H1 := Lib.hid (HRa.out k hlt)
      obtain ⟨x, hx⟩ : ∃ x, A k = x := ⟨_, rfl⟩
      rw [hx] at a0 a1 a2 a3 a4 a5 H1
      clear hx hc
      have jA := Blk.new wr #[.string x.nm, .int .i64 x.ki, .int .i64 x.o0, .int .i64 x.o1, .int .i64 x.c0, .int .i64 x.c1] 87
      have zX := jX.lt
      go_upto_region 7 with fail
      replace jR := jR.alloc (.cells #[.string x.nm, .int .i64 x.ki, .int .i64 x.o0, .int .i64 x.o1, .int .i64 x.c0, .int .i64 x.c1] 87)
      replace jX := jX.alloc (.cells #[.string x.nm, .int .i64 x.ki, .int .i64 x.o0, .int .i64 x.o1, .int .i64 x.c0, .int .i64 x.c1] 87)
      replace jB := bwA jB (Nat.le_refl _) (.cells #[.string x.nm, .int .i64 x.ki, .int .i64 x.o0, .int .i64 x.o1, .int .i64 x.c0, .int .i64 x.c1] 87)
      clear a0 a1 a2 a3 a4 a5 hbs
      generalize wr.alloc (.cells #[.string x.nm, .int .i64 x.ki, .int .i64 x.o0, .int .i64 x.o1, .int .i64 x.c0, .int .i64 x.c1] 87) = V at jR jX jB jA ⊢
      obtain ⟨bA, hbA⟩ : ∃ b, wr.heap.size = b := ⟨_, rfl⟩
      rw [hbA] at jA ⊢
      clear hbA
      obtain ⟨c0, c1, c2, c3, c4, c5⟩ := jA.c6
      have zA := jA.lt
      have zX := jX.lt
      have zV := jB.size
      have hr : ∀ z, u5.ownBlock = some z → w.heap.size ≤ z := fun z e => (jR.lt z e).1
      have HN := Lib.hid (blk_row_ne2 jX jR (by decide))
      go_wp2_with (at_builtin; refine wpList_append_own_at _ rfl _ _ 142 rfl w.heap.size 145 i0 (.agg #[.int .i64 0, .int .i64 0, .int .i64 0, .int .i64 0]) 4 32 Try.underlying142 hi0 hz0 hz1 hz2 rfl (by decide) _ _ _ rfl (jR.alloc _) ⟨V.heap.size, 0, none⟩ 2 2 [.int .i64 ((n : Int) + 1), .int .i64 k, .int .i64 x.o0, .int .i64 x.o1, .int .i64 k, .int .i64 ((n : Int) + 1), .int .i64 x.c0, .int .i64 x.c1] rfl rfl (newsN _ _ _) (one8 _ _ _ _ _ _ _ _) (by unfold maxLen; omega) (by omega) (by simp; omega) ?_; intro v' w9 hown' hgrow _ _; rw [← H1.out] at hown'; have kB := grown_below (bwA jB (Nat.le_refl _) _) hgrow hr (Nat.le_refl _); have kX := (jX.alloc _).grown3 hgrow HN.out)
      clear hgrow jR jB jX jA c0 c1 c2 c3 c4 c5 hr
      go_roundw
      case rel => exact ⟨k + 1, by omega, by go_num, hown', kX, kB⟩
      case measure => simp [intOf]; omega
    · have ek : n = k := by omega
      subst ek
      clear HRa
      have zX := jX.lt
      obtain ⟨x0, x1⟩ := jX.c2
      go_wp2
      clear x0 x1
      go_loopw [5, 42] (fun l i wr => ∃ k : Nat, k ≤ m ∧ i = .int .i64 k ∧ wr.ownsRow w.heap.size 145 4 l (2 * n + k) (R (2 * n + k)) ∧ Blk wr w.heap.size #[.slice aA n cA, .slice aM m cM] 44 ∧ Below w.heap.size w wr) (fun _ i _ => m - (intOf i).toNat)
      case atStart => exact ⟨0, Nat.zero_le _, rfl, jR, jX, jB⟩
      case round =>
        clear jX jB jR zX
        obtain ⟨k, hk, rfl, jR, jX, jB⟩ := hrel
        by_cases hlt2 : k < m
        · obtain ⟨b, o, rfl, hc⟩ := HM.out (by omega)
          obtain ⟨a0, a1, a2, a3⟩ := AtC.c4 hc hlt2 rfl
          replace a0 := cell_later jB a0
          replace a1 := cell_later jB a1
          replace a2 := cell_later jB a2
          replace a3 := cell_later jB a3
          have hbs := World.block_lt_of_cell? _ _ a0
          have H1 := Lib.hid (HRm.out k hlt2)
          obtain ⟨x, hx⟩ : ∃ x, M k = x := ⟨_, rfl⟩
          rw [hx] at a0 a1 a2 a3 H1
          clear hx hc
          have jA := Blk.new wr #[.int .i64 x.fr, .int .i64 x.tt, .int .i64 x.lo, .int .i64 x.hi] 68
          have zX := jX.lt
          go_upto_region 12 with fail
          replace jR := jR.alloc (.cells #[.int .i64 x.fr, .int .i64 x.tt, .int .i64 x.lo, .int .i64 x.hi] 68)
          replace jX := jX.alloc (.cells #[.int .i64 x.fr, .int .i64 x.tt, .int .i64 x.lo, .int .i64 x.hi] 68)
          replace jB := bwA jB (Nat.le_refl _) (.cells #[.int .i64 x.fr, .int .i64 x.tt, .int .i64 x.lo, .int .i64 x.hi] 68)
          clear a0 a1 a2 a3 hbs
          generalize wr.alloc (.cells #[.int .i64 x.fr, .int .i64 x.tt, .int .i64 x.lo, .int .i64 x.hi] 68) = V at jR jX jB jA ⊢
          obtain ⟨bA, hbA⟩ : ∃ b, wr.heap.size = b := ⟨_, rfl⟩
          rw [hbA] at jA ⊢
          clear hbA
          obtain ⟨c0, c1, c2, c3⟩ := jA.c4
          have zA := jA.lt
          have zX := jX.lt
          have zV := jB.size
          have hr : ∀ z, u5.ownBlock = some z → w.heap.size ≤ z := fun z e => (jR.lt z e).1
          have HN := Lib.hid (blk_row_ne2 jX jR (by decide))
          go_wp2_with (at_builtin; refine wpList_append_own_at _ rfl _ _ 142 rfl w.heap.size 145 i0 (.agg #[.int .i64 0, .int .i64 0, .int .i64 0, .int .i64 0]) 4 32 Try.underlying142 hi0 hz0 hz1 hz2 rfl (by decide) _ _ _ rfl (jR.alloc _) ⟨V.heap.size, 0, none⟩ 1 1 [.int .i64 x.fr, .int .i64 x.tt, .int .i64 x.lo, .int .i64 x.hi] rfl rfl (newsN _ _ _) (one4 _ _ _ _) (by unfold maxLen; omega) (by omega) (by simp; omega) ?_; intro v' w9 hown' hgrow _ _; rw [← H1.out] at hown'; have kB := grown_below (bwA jB (Nat.le_refl _) _) hgrow hr (Nat.le_refl _); have kX := (jX.alloc _).grown3 hgrow HN.out)
          clear hgrow jR jB jX jA c0 c1 c2 c3 hr
          go_roundw
          case rel => exact ⟨k + 1, by omega, by go_num, hown', kX, kB⟩
          case measure => simp [intOf]; omega
        · have ek : m = k := by omega
          subst ek
          clear HM HRm
          have zX := jX.lt
          obtain ⟨x0, x1⟩ := jX.c2
          go_wp2
          clear x0 x1
          go_loopw [5, 60] (fun l i wr => ∃ j : Nat, j ≤ n ∧ i = .int .i64 j ∧ wr.ownsRow w.heap.size 145 4 l (2 * n + m + j) (R (2 * n + m + j)) ∧ Blk wr w.heap.size #[.slice aA n cA, .slice aM m cM] 44 ∧ Below w.heap.size w wr) (fun _ i _ => n - (intOf i).toNat)
          case atStart => exact ⟨0, Nat.zero_le _, rfl, jR, jX, jB⟩
          case round =>
            clear jX jB jR zX
            obtain ⟨j, hj, rfl, jR, jX, jB⟩ := hrel
            by_cases hlt3 : j < n
            · obtain ⟨b, o, rfl, hc⟩ := HA.out (by omega)
              obtain ⟨a0, a1, a2, a3, a4, a5⟩ := AtC.c6 hc hlt3 rfl
              replace a0 := cell_later jB a0
              replace a1 := cell_later jB a1
              replace a2 := cell_later jB a2
              replace a3 := cell_later jB a3
              replace a4 := cell_later jB a4
              replace a5 := cell_later jB a5
              have hbs := World.block_lt_of_cell? _ _ a0
              have H1 := Lib.hid (HRl.out j hlt3)
              obtain ⟨x, hx⟩ : ∃ x, A j = x := ⟨_, rfl⟩
              rw [hx] at a0 a1 a2 a3 a4 a5 H1
              clear hx hc
              have jA := Blk.new wr #[.string x.nm, .int .i64 x.ki, .int .i64 x.o0, .int .i64 x.o1, .int .i64 x.c0, .int .i64 x.c1] 87
              have zX := jX.lt
              go_upto_region 17 with fail
              replace jR := jR.alloc (.cells #[.string x.nm, .int .i64 x.ki, .int .i64 x.o0, .int .i64 x.o1, .int .i64 x.c0, .int .i64 x.c1] 87)
              replace jX := jX.alloc (.cells #[.string x.nm, .int .i64 x.ki, .int .i64 x.o0, .int .i64 x.o1, .int .i64 x.c0, .int .i64 x.c1] 87)
              replace jB := bwA jB (Nat.le_refl _) (.cells #[.string x.nm, .int .i64 x.ki, .int .i64 x.o0, .int .i64 x.o1, .int .i64 x.c0, .int .i64 x.c1] 87)
              clear a0 a1 a2 a3 a4 a5 hbs
              generalize wr.alloc (.cells #[.string x.nm, .int .i64 x.ki, .int .i64 x.o0, .int .i64 x.o1, .int .i64 x.c0, .int .i64 x.c1] 87) = V at jR jX jB jA ⊢
              obtain ⟨bA, hbA⟩ : ∃ b, wr.heap.size = b := ⟨_, rfl⟩
              rw [hbA] at jA ⊢
              clear hbA
              obtain ⟨c0, c1, c2, c3, c4, c5⟩ := jA.c6
              have zA := jA.lt
              have zX := jX.lt
              have zV := jB.size
              have hr : ∀ z, u5.ownBlock = some z → w.heap.size ≤ z := fun z e => (jR.lt z e).1
              go_wp2_with fail
              refine (losable_any _ _).mono ?_
              rintro e w2 ⟨rfl, hb⟩
              replace jR := row_call jR hb
              replace jX := jX.call hb
              replace jB := bwS jB (Nat.le_refl _) hb
              clear hb jA c0 c1 c2 c3 c4 c5 zA zX zV
              have zX := jX.lt
              have zV := jB.size
              have HN := Lib.hid (blk_row_ne2 jX jR (by decide))
              go_wp2_with (at_builtin; refine wpList_append_own_at _ rfl _ _ 142 rfl w.heap.size 145 i0 (.agg #[.int .i64 0, .int .i64 0, .int .i64 0, .int .i64 0]) 4 32 Try.underlying142 hi0 hz0 hz1 hz2 rfl (by decide) _ _ _ rfl (jR.alloc _) ⟨w2.heap.size, 0, none⟩ 1 1 [.int .i64 j, .int .i64 n, .int .i64 0, .int .i64 (losH x.ki)] rfl rfl (newsN _ _ _) (one4 _ _ _ _) (by unfold maxLen; omega) (by omega) (by simp; omega) ?_; intro v' w9 hown' hgrow _ _; rw [← H1.out] at hown'; have kB := grown_below (bwA jB (Nat.le_refl _) _) hgrow hr (Nat.le_refl _); have kX := (jX.alloc _).grown3 hgrow HN.out)
              clear hgrow jR jB jX hr
              go_roundw
              case rel => exact ⟨j + 1, by omega, by go_num, hown', kX, kB⟩
              case measure => simp [intOf]; omega
            · have ek : n = j := by omega
              subst ek
              clear HA HRl
              have zX := jX.lt
              have hr : ∀ z, u5.ownBlock = some z → w.heap.size ≤ z := fun z e => (jR.lt z e).1
              go_wp2_with fail
              refine (losable_any _ _).mono ?_
              rintro e w2 ⟨rfl, hb⟩
              rw [show losH 1 = 46000000000 from rfl]
              replace jR := row_call jR hb
              replace jB := bwS jB (Nat.le_refl _) hb
              clear hb zX jX
              have zV := jB.size
              go_wp2_with (at_builtin; refine wpList_append_own_at _ rfl _ _ 142 rfl w.heap.size 145 i0 (.agg #[.int .i64 0, .int .i64 0, .int .i64 0, .int .i64 0]) 4 32 Try.underlying142 hi0 hz0 hz1 hz2 rfl (by decide) _ _ _ rfl (jR.alloc _) ⟨w2.heap.size, 0, none⟩ 1 1 [.int .i64 n, .int .i64 ((n : Int) + 1), .int .i64 0, .int .i64 46000000000] rfl rfl (newsN _ _ _) (one4 _ _ _ _) (by unfold maxLen; omega) (by omega) (by simp; omega) ?_; intro v' w9 hown' hgrow _ _; rw [← HRz.out] at hown'; have kB := grown_below (bwA jB (Nat.le_refl _) _) hgrow hr (Nat.le_refl _))
              clear hgrow jR jB hr
              go_ret
              exact ⟨_, rfl, hown', kB⟩
end Go.Proofs.Ytpeogfcfiabcfaa

/-
  missing, Missing (package fuel) where there is a truth; shaped (the law of layer 6).
-/
import Derived.Test.YtpeogfcfiabcfaaTail
import Derived.Test.YtpeogfcfiabcfaaLos
import Derived.Test.YtpeogfcfiabcfaaTko
set_option linter.unusedVariables false
set_option linter.unusedSimpArgs false
namespace Go.Proofs.Ytpeogfcfiabcfaa
open Go.RowKit

theorem row_sp2 {W : World} {base g n c : Nat} {A B : Nat → Int} (h : W.ownsRow base 26 2 (.slice (some ⟨g, 0, none⟩) n c) n (catC (spC A B) n)) {i : Nat} (hi : i < n) : W.cell? ⟨g, i * 2, none⟩ = some (.int .i64 (A i)) ∧ W.cell? ⟨g, i * 2 + 1, none⟩ = some (.int .i64 (B i)) := by
  refine ⟨?_, ?_⟩
  · rw [h.cellAt (i * 2) (by omega)]
    exact catC_at (spC A B) 2 i 0 (by omega) n (fun _ _ => rfl) hi
  · rw [h.cellAt (i * 2 + 1) (by omega)]
    exact catC_at (spC A B) 2 i 1 (by omega) n (fun _ _ => rfl) hi
def belM {B : Nat} {a w : World} (_ : Below B a w) : World := w
def msV (lo hi : Int) : Int := if 0 < lo then 1 else if hi = 0 then 2 else 3
set_option maxRecDepth 100000 in
theorem missing_any (lo hi : Int) (w : World) : Calls Try.prog 94 #[.agg #[.int .i64 lo, .int .i64 hi]] w fun e w' => e = .returned (.int .i64 (msV lo hi)) ∧ Below w.heap.size w w' := by
  have jB := Blk.new w #[.int .i64 lo, .int .i64 hi] 26
  have kB : Below w.heap.size w (w.alloc (.cells #[.int .i64 lo, .int .i64 hi] 26)) := by (repeat (first | exact Below.refl _ _ | assumption | refine Below.drew ?_ | refine Below.drewN ?_ _ | refine blT ?_ | refine blU ?_))
  obtain ⟨c0, c1⟩ := jB.c2
  by_cases h : 0 < lo
  · have e0 : decide (0 < lo) = true := decide_eq_true h
    have hR := Lib.hid (show msV lo hi = 1 from if_pos h)
    clear h
    go_enter Try.func94, Try.ntmps94
    go_wp2
    go_ret
    exact ⟨by rw [hR.out]; rfl, kB⟩
  · have e0 : decide (0 < lo) = false := decide_eq_false h
    by_cases h2 : hi = 0
    · have e1 : (hi == 0) = true := by simpa using h2
      have hR := Lib.hid (show msV lo hi = 2 from (if_neg h).trans (if_pos h2))
      clear h h2
      go_enter Try.func94, Try.ntmps94
      go_wp2
      go_ret
      exact ⟨by rw [hR.out]; rfl, kB⟩
    · have e1 : (hi == 0) = false := by simpa using h2
      have hR := Lib.hid (show msV lo hi = 3 from (if_neg h).trans (if_neg h2))
      clear h h2
      go_enter Try.func94, Try.ntmps94
      go_wp2
      go_ret
      exact ⟨by rw [hR.out]; rfl, kB⟩
set_option maxRecDepth 100000 in
theorem shaped_yes (n m : Nat) (A A2 : Nat → Ac) (M M2 : Nat → Mv) (vA vM vA2 vM2 : Value) (w : World) (hA : AcsAt w vA n A) (hM : MvsAt w vM m M) (hA2 : AcsAt w vA2 n A2) (hM2 : MvsAt w vM2 m M2) :
    Calls Try.prog 49 #[.agg #[vA, vM], .agg #[vA2, vM2]] w fun e w' => e = .returned (.bool true) ∧ Below w.heap.size w w' := by
  obtain ⟨aA, cA, rfl, -, -, -⟩ := hA
  obtain ⟨aM, cM, rfl, -, -, -⟩ := hM
  obtain ⟨aA2, cA2, rfl, -, -, -⟩ := hA2
  obtain ⟨aM2, cM2, rfl, -, -, -⟩ := hM2
  have jB := (Blk.new w #[.slice aA n cA, .slice aM m cM] 44).alloc (.cells #[.slice aA2 n cA2, .slice aM2 m cM2] 44)
  have jC := Blk.new1 w (.cells #[.slice aA n cA, .slice aM m cM] 44) #[.slice aA2 n cA2, .slice aM2 m cM2] 44
  have kB : Below w.heap.size w ((w.alloc (.cells #[.slice aA n cA, .slice aM m cM] 44)).alloc (.cells #[.slice aA2 n cA2, .slice aM2 m cM2] 44)) := by (repeat (first | exact Below.refl _ _ | assumption | refine Below.drew ?_ | refine Below.drewN ?_ _ | refine blT ?_ | refine blU ?_))
  obtain ⟨c0, c1⟩ := jB.c2
  obtain ⟨d0, d1⟩ := jC.c2
  have e0 : ((n : Int) == n) = true := by simp
  have e1 : ((m : Int) == m) = true := by simp
  go_enter Try.func49, Try.ntmps49
  go_wp2
  go_ret
  exact ⟨rfl, kB⟩
set_option maxRecDepth 100000 in
set_option maxHeartbeats 4000000 in
theorem missing_ok (n : Nat) (A : Nat → Ac) (m : Nat) (M : Nat → Mv) (vA vM : Value) (w : World) (hn : n ≤ 8) (hm : m ≤ 30) (hM0 : ∀ i, i < m → 0 ≤ (M i).fr ∧ 0 ≤ (M i).tt) (hA : AcsAt w vA n A) (hM : MvsAt w vM m M) (hs : NmOk n A) (hR : eRows n A m M = 0)
    (hE : FlOk (flE n A m M) (flN n m)) (hC : CutS (flE n A m M) (flN n m) (2 ^ (n + 1))) (KA KB : Nat → Int) (hKA : (knA (flE n A m M) (flN n m) (2 ^ (n + 1))).1 = KA) (hKB : (knA (flE n A m M) (flN n m) (2 ^ (n + 1))).2 = KB) :
    Calls Try.prog 38 #[.agg #[vA, vM]] w fun e w' => ∃ v, e = .returned (.tuple #[v, .int .i64 0]) ∧ w'.ownsRow w.heap.size 3 1 v n (catC (inC (fun i => msV (KA (2 * n + m + i)) (KB (2 * n + m + i)))) n) ∧ Below w.heap.size w w' := by
  obtain ⟨i0, hi0, hz0, hz1, hz2⟩ := info_parts Try.infoInt
  have HL := Lib.hid (fun (W : World) (h : Below w.heap.size w W) => losses_ok n A m M vA vM W hn hm hM0 (hA.later h) (hM.later h) hs hR hE hC KA KB hKA hKB)
  obtain ⟨aA, cA, rfl, -, -, -⟩ := hA
  obtain ⟨aM, cM, rfl, -, -, -⟩ := hM
  clear hs hR hE hC hKA hKB hM0
  have jB := Blk.new w #[.slice aA n cA, .slice aM m cM] 44
  have kB : Below w.heap.size w (w.alloc (.cells #[.slice aA n cA, .slice aM m cM] 44)) := by (repeat (first | exact Below.refl _ _ | assumption | refine Below.drew ?_ | refine Below.drewN ?_ _ | refine blT ?_ | refine blU ?_))
  obtain ⟨c0, c1⟩ := jB.c2
  obtain ⟨T0, hT0⟩ : ∃ z, KA (2 * n + m + n) = z := ⟨_, rfl⟩
  obtain ⟨T1, hT1⟩ : ∃ z, KB (2 * n + m + n) = z := ⟨_, rfl⟩
  rw [hT0, hT1] at HL
  clear hT0 hT1
  obtain ⟨P, hP⟩ : ∃ P, 2 * n + m = P := ⟨_, rfl⟩
  rw [hP] at HL ⊢
  go_enter Try.func38, Try.ntmps38
  go_wp2_with fail
  clear c0 c1
  refine (HL.out _ kB).mono ?_
  rintro e w2 ⟨v, rfl, rS, hb⟩
  have zr : w.heap.size + 1 ≤ w2.heap.size := by have := hb.size; simp at this; omega
  replace kB := bwS kB (Nat.le_refl _) hb
  clear hb HL
  obtain ⟨aS, cS, hvS, -, -, gS⟩ := row_at rS (by omega)
  subst hvS
  replace rS := rS.alloc (.cells #[.int .i64 T0, .int .i64 T1] 26)
  replace kB := bwA kB (Nat.le_refl _) (.cells #[.int .i64 T0, .int .i64 T1] 26)
  have e0 : ((0 : Int) != 0) = false := by decide
  go_wp2_with fail
  obtain ⟨V, hV⟩ : ∃ V, belM kB = V := ⟨_, rfl⟩
  simp only [belM] at hV
  rw [hV] at kB rS ⊢
  clear hV gS
  have HS := Lib.hid rS
  have HB := Lib.hid kB
  have zV := kB.size
  have rL : V.ownsRow V.heap.size 3 1 (.slice none 0 0) 0 (catC (inC (fun i => msV (KA (P + i)) (KB (P + i)))) 0) := World.ownsRow_nil _ _ _ _
  clear rS kB zr
  go_loopw [7, 21] (fun l i wr => ∃ k : Nat, i = .int .i64 k ∧ k ≤ n ∧ wr.ownsRow V.heap.size 3 1 l k (catC (inC (fun i => msV (KA (P + i)) (KB (P + i)))) k) ∧ Below V.heap.size V wr) (fun _ i _ => n - (intOf i).toNat)
  case atStart => exact ⟨0, rfl, Nat.zero_le _, rL, Below.refl _ _⟩
  case round =>
    clear rL
    obtain ⟨k, rfl, hk, rL, hB⟩ := hrel
    obtain ⟨aL, cL, hvL, -, -, -⟩ := row_at rL (by omega)
    subst hvL
    by_cases hlt : k < n
    · have hltI : (k : Int) < n := by omega
      obtain ⟨g, c', hv, -, -⟩ := HS.out.form (by omega)
      obtain ⟨rfl, rfl⟩ : aS = some ⟨g, 0, none⟩ ∧ cS = c' := by simpa using hv
      have q := row_sp2 (row_call HS.out hB) hlt
      have zq := World.block_lt_of_cell? _ _ q.1
      obtain ⟨q0, q1⟩ := q
      have HCat := Lib.hid (show catC (inC (fun i => msV (KA (P + i)) (KB (P + i)))) k ++ [.int .i64 (msV (KA (P + k)) (KB (P + k)))] = catC (inC (fun i => msV (KA (P + i)) (KB (P + i)))) (k + 1) from rfl)
      generalize KA (P + k) = x at q0 HCat
      generalize KB (P + k) = y at q1 HCat
      clear hv
      have kX := Blk.new wr #[.int .i64 x, .int .i64 y] 26
      replace rL := rL.alloc (.cells #[.int .i64 x, .int .i64 y] 26)
      replace hB := hB.alloc hB.size (.cells #[.int .i64 x, .int .i64 y] 26)
      obtain ⟨x0, x1⟩ := kX.c2
      go_wp2_with fail
      clear q0 q1 x0 x1 zq
      refine (missing_any x y _).mono ?_
      rintro e w9 ⟨rfl, hb⟩
      replace rL := row_call rL hb
      replace hB := hB.trans (hb.mono hB.size)
      clear hb kX
      generalize msV x y = z at HCat ⊢
      have hr : ∀ t, (Value.slice aL k cL).ownBlock = some t → V.heap.size ≤ t := fun t e => (rL.lt t e).1
      have zW := hB.size
      go_wp2_with (at_builtin; refine wpList_append_own_at _ rfl _ _ 22 rfl V.heap.size 3 i0 (.int .i64 0) 1 8 Try.underlying22 hi0 hz0 hz1 hz2 rfl (by decide) _ _ _ rfl (rL.alloc _) ⟨w9.heap.size, 0, none⟩ 1 1 [.int .i64 z] rfl rfl (newsN _ _ _) (one1 _) (by unfold maxLen; omega) (by omega) (by simp; omega) ?_; intro v' w10 hown' hgrow _ _; rw [HCat.out] at hown'; have kD := (hB.alloc hB.size (.cells #[.int .i64 z] 3)).grown hgrow (by simp; omega) hr)
      clear hgrow rL hB hr
      go_roundw
      case rel => exact ⟨k + 1, by go_num, by omega, hown', kD⟩
      case measure => simp [intOf]; omega
    · obtain rfl : k = n := by omega
      go_wp2
      exact bodyPost_ret (v := .tuple #[.slice aL k cL, .int .i64 0]) (by simp [results, Try.results38, go_sem]) rfl ⟨_, rfl, ownsRow_base rL zV, HB.out.trans (hB.mono zV)⟩
end Go.Proofs.Ytpeogfcfiabcfaa

/-
  sort.Search with Flood's test, which writes into a captured day.
-/
import Derived.Test.YtkldjaofgdklbaaLast
import Derived.Test.YtkldjaofgdklbaaRef11
import Derived.Test.YtkldjaofgdklbaaBig
set_option linter.unusedVariables false
set_option linter.unusedSimpArgs false
namespace Go.Proofs.Ytkldjaofgdklbaa
open Go.RowKit

set_option maxRecDepth 100000 in
set_option maxHeartbeats 4000000 in
theorem search_in (n : Nat) (hn : n ≤ 1000) (p : Value) (f : Nat → Bool) (I : World → Prop) (hf : ∀ i, i < n → ∀ W, I W → Calls Try.prog 91 #[.int .i64 i, p] W fun e w' => e = .returned (.bool (f i)) ∧ I w') (w : World) (hI : I w) :
    Calls Try.prog 90 #[.int .i64 n, .func (.func 91) #[] #[p]] w fun e w' => ∃ k : Nat, e = .returned (.int .i64 k) ∧ k ≤ n ∧ (k < n → f k = true) ∧ (∀ j, k = j + 1 → f j = false) ∧ I w' := by
  have HF := Lib.hid hf
  clear hf
  go_enter Try.func90, Try.ntmps90
  go_wp2_with fail
  go_loopw [5, 6, 7] (fun vi vj vh wr => ∃ i j : Nat, i ≤ j ∧ j ≤ n ∧ vi = .int .i64 i ∧ vj = .int .i64 j ∧ (j < n → f j = true) ∧ (∀ q, i = q + 1 → f q = false) ∧ I wr) (fun vi vj _ _ => (intOf vj).toNat - (intOf vi).toNat)
  case atStart => exact ⟨0, n, Nat.zero_le _, Nat.le_refl _, rfl, rfl, fun h => absurd h (Nat.lt_irrefl _), fun q h => by omega, hI⟩
  case round =>
    obtain ⟨i, j, hij, hjn, rfl, rfl, h1, h2, hIw⟩ := hrel
    have H1 := Lib.hid h1
    have H2 := Lib.hid h2
    clear h1 h2 hI
    by_cases hlt : i < j
    · have e1 : IntKind.i64.wrap ((i : Int) + (j : Int)) = (i : Int) + (j : Int) := IntWalk.i64_in _ (by omega)
      go_wp2_with fail
      have hh : ((i : Int) + (j : Int)) / 2 = (((i + j) / 2 : Nat) : Int) := by omega
      simp only [hh]
      clear hh e1
      obtain ⟨h, hh⟩ : ∃ h, (i + j) / 2 = h := ⟨_, rfl⟩
      have b1 : i ≤ h := by omega
      have b2 : h < j := by omega
      rw [hh]
      clear hh
      refine (HF.out h (by omega) _ hIw).mono ?_
      rintro e w2 ⟨rfl, hI2⟩
      have e3 : IntKind.i64.wrap ((h : Int) + 1) = (h : Int) + 1 := IntWalk.i64_in _ (by omega)
      cases hv : f h with
      | true =>
        have H3 := Lib.hid hv
        clear hv
        go_wp2
        go_roundw
        case rel => exact ⟨i, h, b1, by omega, rfl, rfl, fun _ => H3.out, H2.out, hI2⟩
        case measure => simp [intOf]; omega
      | false =>
        have H3 := Lib.hid hv
        clear hv
        go_wp2
        go_roundw
        case rel => exact ⟨h + 1, j, by omega, hjn, by go_num, rfl, H1.out, fun q hq => by rw [← show h = q by omega]; exact H3.out, hI2⟩
        case measure => simp [intOf]; omega
    · obtain rfl : i = j := by omega
      go_wp2
      go_ret
      exact ⟨i, rfl, hjn, H1.out, H2.out, hIw⟩
end Go.Proofs.Ytkldjaofgdklbaa

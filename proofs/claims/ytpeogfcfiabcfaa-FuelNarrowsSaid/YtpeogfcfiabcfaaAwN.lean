/-
  The numbers of the first book.
-/
import Derived.Test.YtpeogfcfiabcfaaVlm
import Derived.Test.YtpeogfcfiabcfaaLos
set_option linter.unusedVariables false
set_option linter.unusedSimpArgs false
namespace Go.Proofs.Ytpeogfcfiabcfaa
open Go.RowKit

theorem aw_rows : eRows 3 bkA 1 bkM = 0 := by decide +kernel
theorem aw_nm : NmOk 3 bkA := by
  intro i hi
  rcases i with _ | _ | _ | i
  · decide +kernel
  · decide +kernel
  · decide +kernel
  · omega
theorem aw_ok : FlOk (flE 3 bkA 1 bkM) (flN 3 1) := ⟨by decide, by decide +kernel⟩
theorem aw_cut : CutS (flE 3 bkA 1 bkM) (flN 3 1) (2 ^ (3 + 1)) := by unfold CutS; decide +kernel
def awLo (_ : Nat) : Int := 0
def awHi (i : Nat) : Int := [10, 30, 0].getD i 0
theorem aw_s (i : Nat) (hi : i < 3) : (knA (flE 3 bkA 1 bkM) (flN 3 1) (2 ^ (3 + 1))).1 (2 * 3 + 1 + i) = awLo i ∧ (knA (flE 3 bkA 1 bkM) (flN 3 1) (2 ^ (3 + 1))).2 (2 * 3 + 1 + i) = awHi i := by
  rcases i with _ | _ | _ | i
  · decide +kernel
  · decide +kernel
  · decide +kernel
  · omega
theorem aw_t0 : (knA (flE 3 bkA 1 bkM) (flN 3 1) (2 ^ (3 + 1))).1 (2 * 3 + 1 + 3) = 0 := by decide +kernel
theorem aw_t1 : (knA (flE 3 bkA 1 bkM) (flN 3 1) (2 ^ (3 + 1))).2 (2 * 3 + 1 + 3) = 30 := by decide +kernel
theorem sp3 {w : World} {b : Nat} {t : TypeId} (h : Blk w b #[.int .i64 0, .int .i64 10, .int .i64 0, .int .i64 30, .int .i64 0, .int .i64 0] t) : SpansAt w (.slice (some ⟨b, 0, none⟩) 3 3) 3 awLo awHi := by
  refine ⟨_, _, rfl, by omega, by omega, fun _ => ⟨b, 0, rfl, ?_⟩⟩
  intro i j u hi hu
  unfold spC at hu
  rcases i with _ | _ | _ | i
  · rcases j with _ | _ | j
    all_goals first | (simp at hu; done) | (exact h.cell _ hu)
  · rcases j with _ | _ | j
    all_goals first | (simp at hu; done) | (exact h.cell _ hu)
  · rcases j with _ | _ | j
    all_goals first | (simp at hu; done) | (exact h.cell _ hu)
  · omega
theorem aw_tk : TkOk 3 tkH tkL := ⟨by decide, by decide, by decide, by decide, by
  intro i hi
  rcases i with _ | _ | i
  · decide
  · decide
  · omega, by
  intro i hi
  rcases i with _ | _ | i
  · decide
  · decide
  · omega⟩
theorem aw_et : eTank 3 3 tkH tkL = 0 := by decide +kernel
theorem aw_es : eS 500 1500 (tkH 0) (tkH (3 - 1)) = 0 := by decide +kernel
theorem aw_p0 {k : Nat} (h : Part 3 tkH 500 k) : ctLo tkH tkL 500 k = 2500 := by
  obtain ⟨h1, h2, h3, h4⟩ := h
  rcases k with _ | _ | k
  · decide +kernel
  · revert h2; decide
  · omega
theorem aw_p1 {k : Nat} (h : Part 3 tkH 1500 k) : ctHi tkH tkL 1500 k = 8500 := by
  obtain ⟨h1, h2, h3, h4⟩ := h
  rcases k with _ | _ | k
  · revert h3; decide
  · decide +kernel
  · omega
end Go.Proofs.Ytpeogfcfiabcfaa

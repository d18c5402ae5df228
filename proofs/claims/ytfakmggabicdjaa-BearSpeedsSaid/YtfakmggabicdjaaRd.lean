/-
  big; what a round of BearHolds and of BearLanes reads.
-/
import Derived.Test.YtfakmggabicdjaaTail
import Derived.Test.YtfakmggabicdjaaRB6
import Derived.Test.YtfakmggabicdjaaLists
import Derived.Test.YtfakmggabicdjaaPlate
set_option linter.unusedVariables false
set_option linter.unusedSimpArgs false
namespace Go.Proofs.Ytfakmggabicdjaa
open Go.RowKit

def bigV (p : Pl) : Bool := decide (40 < (p.S.n : Int)) || decide (40 < (p.C.n : Int))
set_option maxRecDepth 100000 in
theorem kbig_any (p : Pl) (vS vC : Value) (w : World) (hS : TabAt w vS p.S) (hC : TabAt w vC p.C) :
    Calls Try.prog 17 #[.agg #[.int .i64 p.s0, .int .i64 p.s1, vS, vC, .int .i64 p.ne, .int .i64 p.ed, .int .i64 p.gr, .int .i64 p.lo, .int .i64 p.hi, .int .i64 p.sh, .int .i64 p.wi]] w fun e w' => e = .returned (.bool (bigV p)) ∧ Below w.heap.size w w' := by
  obtain ⟨aS, cS, rfl, _, _, _⟩ := hS
  obtain ⟨aC, cC, rfl, _, _, _⟩ := hC
  have jP := Blk.new w #[.int .i64 p.s0, .int .i64 p.s1, (.slice aS p.S.n cS), (.slice aC p.C.n cC), .int .i64 p.ne, .int .i64 p.ed, .int .i64 p.gr, .int .i64 p.lo, .int .i64 p.hi, .int .i64 p.sh, .int .i64 p.wi] 26
  have jB : Below w.heap.size w (w.alloc (.cells #[.int .i64 p.s0, .int .i64 p.s1, (.slice aS p.S.n cS), (.slice aC p.C.n cC), .int .i64 p.ne, .int .i64 p.ed, .int .i64 p.gr, .int .i64 p.lo, .int .i64 p.hi, .int .i64 p.sh, .int .i64 p.wi] 26)) := by (repeat (first | exact Below.refl _ _ | assumption | refine Below.drew ?_ | refine Below.drewN ?_ _ | refine blT ?_ | refine blU ?_))
  obtain ⟨c0, c1, c2, c3, c4, c5, c6, c7, c8, c9, c10⟩ := jP.c11
  have zP := jP.lt
  clear jP
  by_cases h1 : (40 : Int) < (p.S.n : Int)
  · rw [show bigV p = true by simp only [bigV, h1, decide_true, Bool.true_or]]
    go_enter Try.func17, Try.ntmps17
    go_wp2
    go_ret
    exact ⟨rfl, jB⟩
  · have h1n : p.S.n ≤ 40 := by omega
    by_cases h2 : (40 : Int) < (p.C.n : Int)
    · rw [show bigV p = true by simp only [bigV, h2, decide_true, Bool.or_true]]
      go_enter Try.func17, Try.ntmps17
      go_wp2
      go_ret
      exact ⟨rfl, jB⟩
    · rw [show bigV p = false by simp only [bigV, h1, h2, decide_false, Bool.or_false]]
      go_enter Try.func17, Try.ntmps17
      go_wp2
      go_ret
      exact ⟨rfl, jB⟩
structure Rd (V : World) (b6 b7 b8 b9 k : Nat) (x : Pl) (uS uC uI uK uL : Value) (m : Nat) (M : Nat → Ld) (e : Int) (hN : Nat) (X : Nat → Int) : Prop where
  c : V.cell? ⟨b6, k * 11, none⟩ = some (.int .i64 x.s0) ∧ V.cell? ⟨b6, k * 11 + 1, none⟩ = some (.int .i64 x.s1) ∧ V.cell? ⟨b6, k * 11 + 2, none⟩ = some (uS) ∧ V.cell? ⟨b6, k * 11 + 3, none⟩ = some (uC) ∧ V.cell? ⟨b6, k * 11 + 4, none⟩ = some (.int .i64 x.ne) ∧ V.cell? ⟨b6, k * 11 + 5, none⟩ = some (.int .i64 x.ed) ∧ V.cell? ⟨b6, k * 11 + 6, none⟩ = some (.int .i64 x.gr) ∧ V.cell? ⟨b6, k * 11 + 7, none⟩ = some (.int .i64 x.lo) ∧ V.cell? ⟨b6, k * 11 + 8, none⟩ = some (.int .i64 x.hi) ∧ V.cell? ⟨b6, k * 11 + 9, none⟩ = some (.int .i64 x.sh) ∧ V.cell? ⟨b6, k * 11 + 10, none⟩ = some (.int .i64 x.wi)
  i : V.cell? ⟨b7, k, none⟩ = some uI
  j : V.cell? ⟨b8, k, none⟩ = some uK
  l : V.cell? ⟨b9, k, none⟩ = some uL
  m60 : m ≤ 60
  L : LoadsAt V uL m M
  one : ∀ v W, Below V.heap.size V W → LoadsAt W v m M → Calls Try.prog 35 #[.agg #[.int .i64 x.s0, .int .i64 x.s1, uS, uC, .int .i64 x.ne, .int .i64 x.ed, .int .i64 x.gr, .int .i64 x.lo, .int .i64 x.hi, .int .i64 x.sh, .int .i64 x.wi], uI, uK, v] W fun e' w' => ∃ u, e' = .returned (.tuple #[u, .int .i64 e]) ∧ IntsAt w' u hN X ∧ Below W.heap.size W w'
  two : ∀ v W, Below V.heap.size V W → LoadsAt W v m M → Calls Try.prog 36 #[.agg #[.int .i64 x.s0, .int .i64 x.s1, uS, uC, .int .i64 x.ne, .int .i64 x.ed, .int .i64 x.gr, .int .i64 x.lo, .int .i64 x.hi, .int .i64 x.sh, .int .i64 x.wi], uI, uK, v] W fun e' w' => ∃ u, e' = .returned (.tuple #[u, .int .i64 e]) ∧ IntsAt w' u hN X ∧ Below W.heap.size W w'
theorem Rd.mk2 {V : World} {b6 b7 b8 b9 k : Nat} {x : Pl} {uS uC uI uK uL : Value} {m : Nat} {M : Nat → Ld} (ni : Nat) (I0 I1 : Nat → Int) (nc : Nat) (C0 C1 : Nat → Int) (hc : V.cell? ⟨b6, k * 11, none⟩ = some (.int .i64 x.s0) ∧ V.cell? ⟨b6, k * 11 + 1, none⟩ = some (.int .i64 x.s1) ∧ V.cell? ⟨b6, k * 11 + 2, none⟩ = some (uS) ∧ V.cell? ⟨b6, k * 11 + 3, none⟩ = some (uC) ∧ V.cell? ⟨b6, k * 11 + 4, none⟩ = some (.int .i64 x.ne) ∧ V.cell? ⟨b6, k * 11 + 5, none⟩ = some (.int .i64 x.ed) ∧ V.cell? ⟨b6, k * 11 + 6, none⟩ = some (.int .i64 x.gr) ∧ V.cell? ⟨b6, k * 11 + 7, none⟩ = some (.int .i64 x.lo) ∧ V.cell? ⟨b6, k * 11 + 8, none⟩ = some (.int .i64 x.hi) ∧ V.cell? ⟨b6, k * 11 + 9, none⟩ = some (.int .i64 x.sh) ∧ V.cell? ⟨b6, k * 11 + 10, none⟩ = some (.int .i64 x.wi))
    (h7 : V.cell? ⟨b7, k, none⟩ = some uI) (h8 : V.cell? ⟨b8, k, none⟩ = some uK) (h9 : V.cell? ⟨b9, k, none⟩ = some uL) (hm : m ≤ 60) (hS : TabAt V uS x.S) (hC : TabAt V uC x.C) (hI : PairsAt V uI ni I0 I1) (hK : PairsAt V uK nc C0 C1) (hL : LoadsAt V uL m M) :
    Rd V b6 b7 b8 b9 k x uS uC uI uK uL m M (hE x ni I0 I1 nc C0 C1 m M) (if hE x ni I0 I1 nc C0 C1 m M = 0 then m else 0) (fun i => verdV x I0 I1 nc C0 C1 m M (M i)) :=
  ⟨hc, h7, h8, h9, hm, hL, fun v W hW hv => holds_any x uS uC uI uK v ni I0 I1 nc C0 C1 m M W (PairsAt.later hS hW) (PairsAt.later hC hW) (hI.later hW) (hK.later hW) hv,
    fun v W hW hv => rholds_any x uS uC uI uK v ni I0 I1 nc C0 C1 m M W (PairsAt.later hS hW) (PairsAt.later hC hW) (hI.later hW) (hK.later hW) hv⟩
end Go.Proofs.Ytfakmggabicdjaa

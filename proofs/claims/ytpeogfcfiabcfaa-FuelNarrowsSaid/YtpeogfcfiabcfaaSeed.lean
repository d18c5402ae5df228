/-
  The draws of the kit's Seed.
-/
import Derived.RangeFuncNested
import Derived.RangeFuncBound
import Derived.RangeFuncCalls
import Derived.RangeFuncLeaves
import Derived.Shelf.Abstract
import Derived.Shelf.RegionOpen
import Derived.OwnWalkIn
import Derived.TacticsInMore
import Derived.LoopNIn
import Derived.LoopIn
import Derived.Maps.AppendAt
import Derived.RangeFuncBox
import Derived.Test.YtpeogfcfiabcfaaBase
import Derived.Test.YtpeogfcfiabcfaaField
set_option linter.unusedVariables false
set_option linter.unusedSimpArgs false
namespace Go.Proofs.Ytpeogfcfiabcfaa
open Go.RowKit

theorem u64_wrap_in (n : Int) : 0 ≤ IntKind.u64.wrap n ∧ IntKind.u64.wrap n < 18446744073709551616 := by
  simp [IntKind.wrap, IntKind.bits, IntKind.signed]; omega
theorem u64_xor_in (a b : Int) : 0 ≤ bits .xor .u64 a b ∧ bits .xor .u64 a b < 18446744073709551616 := by
  unfold bits
  exact u64_wrap_in _

theorem next_any (u : Int) (bs : Nat) (w : World) (hs : Blk w bs #[.int .u64 u] 101) :
    Calls Try.prog 68 #[.pointer (some ⟨bs, 0, none⟩)] w fun e w' => ∃ v u', e = .returned (.int .u64 v) ∧ 0 ≤ v ∧ v < 18446744073709551616 ∧ Blk w' bs #[.int .u64 u'] 101 ∧ w.grownBy w' (some bs) := by
  have c0 := hs.cell1
  have f0 := hs.free 0
  have z := hs.lt
  go_enter Try.func68, Try.ntmps68
  go_wp2
  go_ret
  refine ⟨_, _, rfl, (u64_xor_in _ _).1, (u64_xor_in _ _).2, hs.set 0 _, ⟨rfl, rfl, rfl, by simp, fun k hk hne => ?_⟩⟩
  exact Below.heap_setCell w _ _ k (by intro h; exact hne (by rw [h]))

def Drawn (bs : Nat) (w w' : World) : Prop := (∃ u, Blk w' bs #[.int .u64 u] 101) ∧ w.grownBy w' (some bs)
def SeedAt (bs : Nat) (w : World) : Prop := ∃ u, Blk w bs #[.int .u64 u] 101
theorem grownBy_refl (w : World) (r : Option Nat) : w.grownBy w r := ⟨rfl, rfl, rfl, Nat.le_refl _, fun _ _ _ => rfl⟩
theorem grownBy_trans {w v x : World} {r : Option Nat} (h : w.grownBy v r) (g : v.grownBy x r) : w.grownBy x r :=
  ⟨g.os.trans h.os, g.tape.trans h.tape, g.output.trans h.output, Nat.le_trans h.size g.size, fun k hk hn => (g.block k (Nat.lt_of_lt_of_le hk h.size) hn).trans (h.block k hk hn)⟩
theorem Drawn.refl {bs : Nat} {w : World} (h : SeedAt bs w) : Drawn bs w w := ⟨h, grownBy_refl _ _⟩
theorem Drawn.trans {bs : Nat} {w v x : World} (h : Drawn bs w v) (g : Drawn bs v x) : Drawn bs w x := ⟨g.1, grownBy_trans h.2 g.2⟩
theorem Drawn.seed {bs : Nat} {w v : World} (h : Drawn bs w v) : SeedAt bs v := h.1

theorem next_in (bs : Nat) (w : World) (hs : SeedAt bs w) :
    Calls Try.prog 68 #[.pointer (some ⟨bs, 0, none⟩)] w fun e w' => ∃ v, e = .returned (.int .u64 v) ∧ 0 ≤ v ∧ v < 18446744073709551616 ∧ Drawn bs w w' := by
  obtain ⟨u, hs⟩ := hs
  exact (next_any u bs w hs).mono fun e w' ⟨v, u', he, h0, h1, hb, hg⟩ => ⟨v, he, h0, h1, ⟨u', hb⟩, hg⟩

theorem below_in (n : Int) (bs : Nat) (w : World) (hs : SeedAt bs w) (hn : n ≤ 9223372036854775807) :
    Calls Try.prog 28 #[.pointer (some ⟨bs, 0, none⟩), .int .i64 n] w fun e w' => ∃ v, e = .returned (.int .i64 v) ∧ 0 ≤ v ∧ (v = 0 ∨ v < n) ∧ Drawn bs w w' := by
  by_cases h : n < 2
  · go_enter Try.func28, Try.ntmps28
    go_wp2
    go_ret
    exact ⟨0, rfl, by omega, .inl rfl, .refl hs⟩
  · have HN := Lib.hid (next_in bs w hs)
    go_enter Try.func28, Try.ntmps28
    go_wp2_with fail
    refine HN.out.mono ?_
    rintro e w1 ⟨v, rfl, v0, v1, hd⟩
    go_wp2
    go_ret
    have m0 : 0 ≤ v / 2 % n := Int.emod_nonneg _ (by omega)
    have m1 : v / 2 % n < n := Int.emod_lt_of_pos _ (by omega)
    have e : wrap64 (v / 2 % n) = v / 2 % n := by unfold wrap64; omega
    refine ⟨v / 2 % n, ?_, m0, .inr m1, hd⟩
    show Ending.returned (.int .i64 (wrap64 (v / 2 % n))) = _
    rw [e]

theorem from_in (lo hi : Int) (bs : Nat) (w : World) (hs : SeedAt bs w) (h1 : -1000000000000 ≤ lo) (h2 : hi ≤ 1000000000000) (h3 : lo ≤ 1000000000000) (h4 : -1000000000000 ≤ hi) :
    Calls Try.prog 29 #[.pointer (some ⟨bs, 0, none⟩), .int .i64 lo, .int .i64 hi] w fun e w' => ∃ v, e = .returned (.int .i64 v) ∧ lo ≤ v ∧ (v = lo ∨ v ≤ hi) ∧ Drawn bs w w' := by
  have HN := Lib.hid (below_in (hi - lo + 1) bs w hs (by omega))
  go_enter Try.func29, Try.ntmps29
  go_wp2_with fail
  refine HN.out.mono ?_
  rintro e w1 ⟨v, rfl, v0, v1, hd⟩
  go_wp2
  go_ret
  refine ⟨lo + v, ?_, by omega, by omega, hd⟩
  first | rfl | exact ret_int (IntWalk.i64_in _ (by omega))

end Go.Proofs.Ytpeogfcfiabcfaa

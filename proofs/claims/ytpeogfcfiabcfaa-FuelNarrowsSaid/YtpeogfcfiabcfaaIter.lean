/-
  Sets of accounts handed out one after the other (package fuel): the iterator's contract, for every loop over it that does not leave early.
-/
import Derived.Test.YtpeogfcfiabcfaaTail
import Derived.RangeFuncNested
import Derived.RangeFuncBound
import Derived.RangeFuncCalls
import Derived.RangeFuncLeaves
import Derived.Shelf.Abstract
import Derived.Shelf.RegionOpen
import Derived.OwnWalkIn
import Derived.TacticsInMore
import Derived.LoopNIn
import Derived.LoopIn
import Derived.Maps.AppendAt
import Derived.Laws.EntriesVeiled
import Derived.Test.YtpeogfcfiabcfaaSum
set_option linter.unusedVariables false
set_option linter.unusedSimpArgs false
namespace Go.Proofs.Ytpeogfcfiabcfaa
open Go.RowKit Go.Shelf
attribute [local go_sem] Oper.semAt_some

def setV (bh : Nat) : Value := .agg #[.func (.func 151) #[] #[.pointer (some ⟨bh, 0, none⟩)], .func (.func 152) #[] #[.pointer (some ⟨bh, 0, none⟩)]]
set_option maxRecDepth 100000 in
set_option maxHeartbeats 2000000 in
theorem sets1_in (n l bc m : Nat) (hm : m ≤ 9) (J : Nat → World → Prop) (hJb : ∀ k W W', J k W → Below W.heap.size W W' → J k W') (hJc : ∀ k W, J k W → W.cell? ⟨bc, 0, none⟩ = some (.int .i64 m))
    (hY : ∀ k W bh, k < 2 ^ m → J k W → HasAt W bh k → YieldAt Fence.wide (n - 1) Try.prog l #[setV bh] W fun e W' => e = .returned (.bool true) ∧ J (k + 1) W')
    (W : World) (hJ0 : J 0 W) :
    CallsIn Fence.wide n Try.prog 149 #[.func (.yield l) #[] #[], .pointer (some ⟨bc, 0, none⟩)] W fun e W' => (∃ v, e = .returned v) ∧ J (2 ^ m) W' := by
  have hp : 2 ^ m ≤ 512 := by
    have := Nat.pow_le_pow_right (n := 2) (by decide) hm
    simpa using this
  have hw : ∀ q : Nat, q ≤ 512 → wrap64 (q : Int) = q := fun q hq => by unfold wrap64; omega
  have hw2 : wrap64 ((2 : Int) ^ m) = ((2 ^ m : Nat) : Int) := by
    rw [show ((2 : Int) ^ m) = ((2 ^ m : Nat) : Int) by simp]
    exact hw _ hp
  obtain ⟨N, hN⟩ : ∃ N, 2 ^ m = N := ⟨_, rfl⟩
  rw [hN] at hp hw2 hY ⊢
  clear hw hN
  have HY := Lib.hid hY
  have HJ := Lib.hid hJb
  have c0 := hJc 0 W hJ0
  have zc := World.block_lt_of_cell? _ _ c0
  clear hY hJb hJc
  refine callsIn_of_wp Try.func149 rfl trivial ?_ rfl
  simp only [Try.ntmps149, List.size_toArray, List.length_cons, List.length_nil, Nat.reduceAdd, Nat.reduceSub, Array.replicate_succ, Array.replicate_zero, List.push_toArray, List.append_toArray, List.nil_append, List.cons_append]
  gi_wp2
  clear hw2
  gi_loopw [8] (fun i wr => ∃ k : Nat, k ≤ N ∧ i = .int .i64 k ∧ J k wr) (fun i _ => N - (intOf i).toNat)
  case atStart => exact ⟨0, Nat.zero_le _, rfl, hJ0⟩
  case round =>
    clear c0 zc hJ0
    obtain ⟨k, hk, rfl, hJk⟩ := hrel
    by_cases hlt : k < N
    · have jB : Below wr.heap.size wr (((wr.alloc (.cells #[.int .i64 k] 3)).alloc (.cells #[.func (.func 150) #[] #[.pointer (some ⟨wr.heap.size, 0, none⟩)]] 51)).alloc (.cells #[.func (.func 151) #[] #[.pointer (some ⟨wr.heap.size + 1, 0, none⟩)], .func (.func 152) #[] #[.pointer (some ⟨wr.heap.size + 1, 0, none⟩)]] 151)) := by (repeat (first | exact Below.refl _ _ | assumption | refine Below.drew ?_ | refine Below.drewN ?_ _ | refine blT ?_ | refine blU ?_))
      have j1 := (((Blk.new wr #[.int .i64 k] 3).alloc (.cells #[.func (.func 150) #[] #[.pointer (some ⟨wr.heap.size, 0, none⟩)]] 51)).alloc (.cells #[.func (.func 151) #[] #[.pointer (some ⟨wr.heap.size + 1, 0, none⟩)], .func (.func 152) #[] #[.pointer (some ⟨wr.heap.size + 1, 0, none⟩)]] 151))
      have j2 := ((Blk.new1 wr (.cells #[.int .i64 k] 3) #[.func (.func 150) #[] #[.pointer (some ⟨wr.heap.size, 0, none⟩)]] 51).alloc (.cells #[.func (.func 151) #[] #[.pointer (some ⟨wr.heap.size + 1, 0, none⟩)], .func (.func 152) #[] #[.pointer (some ⟨wr.heap.size + 1, 0, none⟩)]] 151))
      obtain ⟨fn, tmps, assign, body, hy, hR⟩ := HY.out k _ (wr.heap.size + 1) hlt (HJ.out k _ _ hJk jB) ⟨wr.heap.size, j2, j1⟩
      unfold setV at hy
      clear j1 j2 jB
      gi_wp2
      refine ⟨fun h => (by simp [Fence.wide] at h), ?_⟩
      refine hR.mono ?_
      rintro e W3 ⟨rfl, hJ4⟩
      gi_wp2
      go_roundw
      case rel => exact ⟨k + 1, by omega, by go_num, hJ4⟩
      case measure => simp [intOf]; omega
    · gi_wp2
      obtain rfl : k = N := by omega
      go_end0
      exact ⟨⟨_, rfl⟩, hJk⟩
end Go.Proofs.Ytpeogfcfiabcfaa

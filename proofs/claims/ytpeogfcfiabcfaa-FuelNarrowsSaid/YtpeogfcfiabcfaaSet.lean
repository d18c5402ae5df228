/-
  Sets of accounts as bits (package fuel): which flows go into one, and out of it.
-/
import Derived.Test.YtpeogfcfiabcfaaTail
import Derived.Test.YtpeogfcfiabcfaaTab
import Derived.Test.YtpeogfcfiabcfaaHoff
import Derived.Test.YtpeogfcfiabcfaaField
import Derived.IntWalk
import Derived.Laws.BitsLemmas
set_option linter.unusedVariables false
set_option linter.unusedSimpArgs false
namespace Go.Proofs.Ytpeogfcfiabcfaa
open Go.RowKit

def bS (s : Nat) : Nat → Bool := fun i => s.testBit i
theorem i64_and1 (n : Int) : bits .and .i64 n 1 = n % 2 := by
  have h1 : (BitVec.ofInt 64 1).toNat = 2 ^ 1 - 1 := by decide
  have key : (BitVec.ofInt 64 n &&& BitVec.ofInt 64 1).toNat = (n % ((2 ^ 64 : Nat) : Int)).toNat % 2 ^ 1 := by
    rw [BitVec.toNat_and, BitVec.toNat_ofInt, h1, Nat.and_two_pow_sub_one_eq_mod]
  show IntKind.i64.wrap ((BitVec.ofInt 64 n &&& BitVec.ofInt 64 1).toNat : Nat) = n % 2
  rw [key, IntKind.wrap_i64]
  omega
theorem bit_int (s a : Nat) : (bits .and .i64 ((s : Int) / 2 ^ a) 1 == 1) = bS s a := by
  rw [i64_and1]
  unfold bS
  rw [Nat.testBit_eq_decide_div_mod_eq]
  have : ((s : Int) / 2 ^ a) = ((s / 2 ^ a : Nat) : Int) := by simp
  rw [this]
  generalize s / 2 ^ a = q
  by_cases h : q % 2 = 1
  · have h2 : (q : Int) % 2 = 1 := by omega
    rw [h2, decide_eq_true h]; rfl
  · have h2 : (q : Int) % 2 = 0 := by omega
    rw [h2, decide_eq_false h]; rfl
set_option maxHeartbeats 400000 in
theorem has_any (a s bm : Nat) (ha : a ≤ 20) (hs : s < 1048576) (w : World) (hm : w.cell? ⟨bm, 0, none⟩ = some (.int .i64 s)) :
    Calls Try.prog 150 #[.int .i64 a, .pointer (some ⟨bm, 0, none⟩)] w fun e w' => e = .returned (.bool (bS s a)) ∧ w = w' := by
  have zm := World.block_lt_of_cell? _ _ hm
  have HB := Lib.hid (bit_int s a)
  go_enter Try.func150, Try.ntmps150
  go_wp2
  go_ret
  exact ⟨by rw [← HB.out]; rfl, rfl⟩
def flC (E : Nat → Fl) (i : Nat) : List Value := [.int .i64 (E i).a, .int .i64 (E i).b, .int .i64 (E i).l, .int .i64 (E i).h]
abbrev FlsAt (w : World) (v : Value) (n : Nat) (E : Nat → Fl) : Prop := LAt w v n 4 (flC E)
def HasAt (w : World) (bh s : Nat) : Prop := ∃ bm, Blk w bh #[.func (.func 150) #[] #[.pointer (some ⟨bm, 0, none⟩)]] 51 ∧ Blk w bm #[.int .i64 s] 3
theorem HasAt.later {w w' : World} {bh s : Nat} (h : HasAt w bh s) (hb : Below w.heap.size w w') : HasAt w' bh s := by
  obtain ⟨bm, h1, h2⟩ := h
  exact ⟨bm, h1.call hb, h2.call hb⟩

set_option maxHeartbeats 1000000 in
theorem into_any (f : Fl) (s bh : Nat) (ha : f.a ≤ 20) (hb : f.b ≤ 20) (hs : s < 1048576) (w : World) (hh : HasAt w bh s) :
    Calls Try.prog 151 #[.agg #[.int .i64 f.a, .int .i64 f.b, .int .i64 f.l, .int .i64 f.h], .pointer (some ⟨bh, 0, none⟩)] w fun e w' => e = .returned (.bool (cIn (bS s) f)) ∧ Below w.heap.size w w' := by
  have jB : Below w.heap.size w (w.alloc (.cells #[.int .i64 f.a, .int .i64 f.b, .int .i64 f.l, .int .i64 f.h] 145)) := by (repeat (first | exact Below.refl _ _ | assumption | refine Below.drew ?_ | refine Below.drewN ?_ _ | refine blT ?_ | refine blU ?_))
  have HH := hh.later jB
  obtain ⟨bm, h1, h2⟩ := hh
  replace h1 := h1.cell1
  replace h2 := h2.cell1
  have z1 := World.block_lt_of_cell? _ _ h1
  have K := Lib.hid (fun (n : Nat) (hn : n ≤ 20) => has_any n s bm hn hs _ (cell_later jB h2))
  obtain ⟨x, hx⟩ : ∃ x, bS s f.b = x := ⟨_, rfl⟩
  obtain ⟨y, hy⟩ : ∃ y, bS s f.a = y := ⟨_, rfl⟩
  have hS : cIn (bS s) f = (x && !y) := by unfold cIn; rw [hx, hy]
  rw [hS]
  have K1 := Lib.hid (K.out f.b hb)
  have K2 := Lib.hid (K.out f.a ha)
  rw [hx] at K1
  rw [hy] at K2
  clear hx hy hS K HH h2
  go_enter Try.func151, Try.ntmps151
  go_wp2_with fail
  refine K1.out.mono ?_
  rintro e w' ⟨rfl, rfl⟩
  cases x with
  | false =>
    go_wp2
    go_ret
    exact ⟨rfl, jB⟩
  | true =>
    go_wp2_with fail
    refine K2.out.mono ?_
    rintro e w' ⟨rfl, rfl⟩
    go_wp2
    go_ret
    exact ⟨rfl, jB⟩

set_option maxHeartbeats 1000000 in
theorem outof_any (f : Fl) (s bh : Nat) (ha : f.a ≤ 20) (hb : f.b ≤ 20) (hs : s < 1048576) (w : World) (hh : HasAt w bh s) :
    Calls Try.prog 152 #[.agg #[.int .i64 f.a, .int .i64 f.b, .int .i64 f.l, .int .i64 f.h], .pointer (some ⟨bh, 0, none⟩)] w fun e w' => e = .returned (.bool (cOut (bS s) f)) ∧ Below w.heap.size w w' := by
  have jB : Below w.heap.size w (w.alloc (.cells #[.int .i64 f.a, .int .i64 f.b, .int .i64 f.l, .int .i64 f.h] 145)) := by (repeat (first | exact Below.refl _ _ | assumption | refine Below.drew ?_ | refine Below.drewN ?_ _ | refine blT ?_ | refine blU ?_))
  have HH := hh.later jB
  obtain ⟨bm, h1, h2⟩ := hh
  replace h1 := h1.cell1
  replace h2 := h2.cell1
  have z1 := World.block_lt_of_cell? _ _ h1
  have K := Lib.hid (fun (n : Nat) (hn : n ≤ 20) => has_any n s bm hn hs _ (cell_later jB h2))
  obtain ⟨x, hx⟩ : ∃ x, bS s f.a = x := ⟨_, rfl⟩
  obtain ⟨y, hy⟩ : ∃ y, bS s f.b = y := ⟨_, rfl⟩
  have hS : cOut (bS s) f = (x && !y) := by unfold cOut; rw [hx, hy]
  rw [hS]
  have K1 := Lib.hid (K.out f.a ha)
  have K2 := Lib.hid (K.out f.b hb)
  rw [hx] at K1
  rw [hy] at K2
  clear hx hy hS K HH h2
  go_enter Try.func152, Try.ntmps152
  go_wp2_with fail
  refine K1.out.mono ?_
  rintro e w' ⟨rfl, rfl⟩
  cases x with
  | false =>
    go_wp2
    go_ret
    exact ⟨rfl, jB⟩
  | true =>
    go_wp2_with fail
    refine K2.out.mono ?_
    rintro e w' ⟨rfl, rfl⟩
    go_wp2
    go_ret
    exact ⟨rfl, jB⟩
end Go.Proofs.Ytpeogfcfiabcfaa

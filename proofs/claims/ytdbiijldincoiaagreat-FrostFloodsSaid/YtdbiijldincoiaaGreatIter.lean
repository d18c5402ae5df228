/-
  Days handed out one after the other: the contract of the iterator that frost.after makes, for every loop over it that does not leave early.
-/
import Derived.RangeFuncNested
import Derived.RangeFuncBound
import Derived.RangeFuncCalls
import Derived.RangeFuncLeaves
import Derived.Shelf.Abstract
import Derived.Shelf.RegionOpen
import Derived.WalkKit
import Derived.OwnWalkIn
import Derived.TacticsInMore
import Derived.LoopNIn
import Derived.LoopIn
import Derived.Maps.AppendAt
import Derived.Test.YtdbiijldincoiaaGreatStep
set_option linter.unusedVariables false
set_option linter.unusedSimpArgs false
namespace Go.Proofs.YtdbiijldincoiaaGreat
open Go.RowKit Go.Shelf
attribute [local go_sem] Oper.semAt_some

structure ItAt (w0 : World) (c s : Nat) (LC : Array Value) (dv : Value) (x : Ic) (W : World) : Prop where
  le : c ≤ s
  old : Below c w0 W
  law : Blk W s LC 26
  days : Blk W (s + 1 + 1) #[dv] 29
  ice : Blk W (s + 1) #[.int .i64 x.b0, .int .i64 x.b1, .int .i64 x.w0, .int .i64 x.w1, .int .i64 x.q0, .int .i64 x.q1, .int .i64 x.s0, .int .i64 x.s1] 28

theorem ItAt.call {w0 : World} {c s : Nat} {LC : Array Value} {dv : Value} {x : Ic} {W W' : World} (h : ItAt w0 c s LC dv x W) (hb : Below W.heap.size W W') : ItAt w0 c s LC dv x W' :=
  ⟨h.le, h.old.trans (hb.mono (by have := h.law.lt; have := h.le; omega)), h.law.call hb, h.days.call hb, h.ice.call hb⟩

theorem bwA' {B : Nat} {w W : World} (h : Below B w W) (hB : B ≤ W.heap.size) (o : Obj) : Below B w (W.alloc o) := h.alloc hB o
theorem ItAt.alloc {w0 : World} {c s : Nat} {LC : Array Value} {dv : Value} {x : Ic} {W : World} (h : ItAt w0 c s LC dv x W) (o : Obj) : ItAt w0 c s LC dv x (W.alloc o) :=
  ⟨h.le, h.old.alloc (by have := h.law.lt; have := h.le; omega) o, h.law.alloc o, h.days.alloc o, h.ice.alloc o⟩

set_option maxRecDepth 100000 in
set_option maxHeartbeats 2000000 in
theorem after1_in (n l c s : Nat) (a : Option Addr) (b o cap : Nat) (gr la : Int) (va : Option Addr) (nc vcap : Nat) (m0 m1 so h0 h1 : Int) (d : Nat → Dy) (x : Nat → Ic) (w0 : World) (m : Nat) (hn : m ≤ 9223372036854775807) (hb : b < c) (ha : 0 < m → a = some ⟨b, o, none⟩)
    (hd : ∀ i, i < m → w0.cell? ⟨b, o + i * 6, none⟩ = some (.int .i64 (d i).c0) ∧ w0.cell? ⟨b, o + i * 6 + 1, none⟩ = some (.int .i64 (d i).c1) ∧ w0.cell? ⟨b, o + i * 6 + 2, none⟩ = some (.int .i64 (d i).f0) ∧
      w0.cell? ⟨b, o + i * 6 + 3, none⟩ = some (.int .i64 (d i).f1) ∧ w0.cell? ⟨b, o + i * 6 + 4, none⟩ = some (.int .i64 (d i).wa) ∧ w0.cell? ⟨b, o + i * 6 + 5, none⟩ = some (.bool (d i).cl))
    (hS : ∀ k W, k < m → Below c w0 W → Calls Tryz.prog 55 #[.agg #[.int .i64 gr, .int .i64 la, (.slice va nc vcap), .int .i64 m0, .int .i64 m1, .int .i64 so, .int .i64 h0, .int .i64 h1], .agg #[.int .i64 (x k).b0, .int .i64 (x k).b1, .int .i64 (x k).w0, .int .i64 (x k).w1, .int .i64 (x k).q0, .int .i64 (x k).q1, .int .i64 (x k).s0, .int .i64 (x k).s1], .agg #[.int .i64 (d k).c0, .int .i64 (d k).c1, .int .i64 (d k).f0, .int .i64 (d k).f1, .int .i64 (d k).wa, .bool (d k).cl]] W
      fun e w' => e = .returned (.agg #[.int .i64 (x (k + 1)).b0, .int .i64 (x (k + 1)).b1, .int .i64 (x (k + 1)).w0, .int .i64 (x (k + 1)).w1, .int .i64 (x (k + 1)).q0, .int .i64 (x (k + 1)).q1, .int .i64 (x (k + 1)).s0, .int .i64 (x (k + 1)).s1]) ∧ Below W.heap.size W w')
    (J : Nat → World → Prop) (hJb : ∀ k W W', J k W → Below W.heap.size W W' → J k W') (hJs : ∀ k W j v, J k W → J k (W.setCell ⟨s + 1, j, none⟩ v))
    (hY : ∀ k W, k < m → J k W → ItAt w0 c s #[.int .i64 gr, .int .i64 la, .slice va nc vcap, .int .i64 m0, .int .i64 m1, .int .i64 so, .int .i64 h0, .int .i64 h1] (.slice a m cap) (x (k + 1)) W →
      YieldAt Fence.wide (n - 1) Tryz.prog l #[.agg #[.int .i64 (x (k + 1)).b0, .int .i64 (x (k + 1)).b1, .int .i64 (x (k + 1)).w0, .int .i64 (x (k + 1)).w1, .int .i64 (x (k + 1)).q0, .int .i64 (x (k + 1)).q1, .int .i64 (x (k + 1)).s0, .int .i64 (x (k + 1)).s1]] W fun e W' =>
        e = .returned (.bool true) ∧ J (k + 1) W' ∧ ItAt w0 c s #[.int .i64 gr, .int .i64 la, .slice va nc vcap, .int .i64 m0, .int .i64 m1, .int .i64 so, .int .i64 h0, .int .i64 h1] (.slice a m cap) (x (k + 1)) W')
    (W : World) (hJ0 : J 0 W) (hI : ItAt w0 c s #[.int .i64 gr, .int .i64 la, .slice va nc vcap, .int .i64 m0, .int .i64 m1, .int .i64 so, .int .i64 h0, .int .i64 h1] (.slice a m cap) (x 0) W) :
    CallsIn Fence.wide n Tryz.prog 61 #[.func (.yield l) #[] #[], .pointer (some ⟨s + 1 + 1, 0, none⟩), .pointer (some ⟨s, 0, none⟩), .pointer (some ⟨s + 1, 0, none⟩)] W
      fun e W' => (∃ v, e = .returned v) ∧ J m W' ∧ ItAt w0 c s #[.int .i64 gr, .int .i64 la, .slice va nc vcap, .int .i64 m0, .int .i64 m1, .int .i64 so, .int .i64 h0, .int .i64 h1] (.slice a m cap) (x m) W' := by
  have HD := Lib.hid hd
  have HS := Lib.hid hS
  have HJ := Lib.hid (And.intro hJb hJs)
  have HY := Lib.hid hY
  clear hd hS hJb hJs hY
  have k0 : W.cell? ⟨s + 1 + 1, 0, none⟩ = some (.slice a m cap) := hI.days.cell 0 rfl
  refine callsIn_of_wp Tryz.func61 rfl trivial ?_ rfl
  simp only [Tryz.ntmps61, List.size_toArray, List.length_cons, List.length_nil, Nat.reduceAdd, Nat.reduceSub, Array.replicate_succ, Array.replicate_zero, List.push_toArray, List.append_toArray, List.nil_append, List.cons_append]
  gi_wp2
  gi_loopw [9] (fun i wr => ∃ k : Nat, k ≤ m ∧ i = .int .i64 k ∧ J k wr ∧ ItAt w0 c s #[.int .i64 gr, .int .i64 la, .slice va nc vcap, .int .i64 m0, .int .i64 m1, .int .i64 so, .int .i64 h0, .int .i64 h1] (.slice a m cap) (x k) wr) (fun i _ => m - (intOf i).toNat)
  case atStart => exact ⟨0, Nat.zero_le _, rfl, hJ0, hI⟩
  case round =>
    obtain ⟨k, hk, rfl, hJk, hIk⟩ := hrel
    clear k0 hI hJ0
    by_cases hlt : k < m
    · obtain rfl : a = some ⟨b, o, none⟩ := ha (by omega)
      obtain ⟨a0, a1, a2, a3, a4, a5⟩ := HD.out k hlt
      have hcb : ∀ j, wr.cell? ⟨b, j, none⟩ = w0.cell? ⟨b, j, none⟩ := fun j => hIk.old.cell (p := ⟨b, j, none⟩) hb
      replace a0 := (hcb _).trans a0
      replace a1 := (hcb _).trans a1
      replace a2 := (hcb _).trans a2
      replace a3 := (hcb _).trans a3
      replace a4 := (hcb _).trans a4
      replace a5 := (hcb _).trans a5
      clear hcb
      obtain ⟨l0, l1, l2, l3, l4, l5, l6, l7⟩ := hIk.law.c8
      obtain ⟨i0, i1, i2, i3, i4, i5, i6, i7⟩ := hIk.ice.c8
      have zL := hIk.law.lt
      have zI := hIk.ice.lt
      have zb := World.block_lt_of_cell? _ _ a0
      gi_wp2_with fail
      refine ⟨trivial, fun h => (by simp [Fence.wide] at h), ?_⟩
      refine (callsIn_wide.2 (HS.out k _ hlt ?_)).mono ?_
      · exact bwA' hIk.old (by have := hIk.le; omega) _
      rintro e w2 ⟨rfl, hb2⟩
      have hI2 := (hIk.alloc _).call hb2
      have hJ2 := HJ.out.1 k _ _ (HJ.out.1 k _ _ hJk ((Below.refl _ _).alloc (Nat.le_refl _) _)) hb2
      clear hb2 a0 a1 a2 a3 a4 a5 l0 l1 l2 l3 l4 l5 l6 l7 i0 i1 i2 i3 i4 i5 i6 i7 hIk hJk zb
      obtain ⟨i0, i1, i2, i3, i4, i5, i6, i7⟩ := hI2.ice.c8
      have f0 := hI2.ice.free 0
      have f1 := hI2.ice.free 1
      have f2 := hI2.ice.free 2
      have f3 := hI2.ice.free 3
      have f4 := hI2.ice.free 4
      have f5 := hI2.ice.free 5
      have f6 := hI2.ice.free 6
      have f7 := hI2.ice.free 7
      have hI3 : ItAt w0 c s #[.int .i64 gr, .int .i64 la, .slice va nc vcap, .int .i64 m0, .int .i64 m1, .int .i64 so, .int .i64 h0, .int .i64 h1] (.slice (some ⟨b, o, none⟩) m cap) (x (k + 1)) ((((((((w2.setCell ⟨s + 1, 0, none⟩ (.int .i64 (x (k + 1)).b0)).setCell ⟨s + 1, 1, none⟩ (.int .i64 (x (k + 1)).b1)).setCell ⟨s + 1, 2, none⟩ (.int .i64 (x (k + 1)).w0)).setCell ⟨s + 1, 3, none⟩ (.int .i64 (x (k + 1)).w1)).setCell ⟨s + 1, 4, none⟩ (.int .i64 (x (k + 1)).q0)).setCell ⟨s + 1, 5, none⟩ (.int .i64 (x (k + 1)).q1)).setCell ⟨s + 1, 6, none⟩ (.int .i64 (x (k + 1)).s0)).setCell ⟨s + 1, 7, none⟩ (.int .i64 (x (k + 1)).s1)) := by
        have hle := hI2.le
        refine ⟨hle, ?_, ?_, ?_, hI2.ice.set8 _ _ _ _ _ _ _ _⟩
        · iterate 8 refine Below.setCell ?_ (by simp; omega) _
          exact hI2.old
        · iterate 8 refine Blk.other ?_ _ _ (by simp)
          exact hI2.law
        · iterate 8 refine Blk.other ?_ _ _ (by simp)
          exact hI2.days
      have hJ3 : J k ((((((((w2.setCell ⟨s + 1, 0, none⟩ (.int .i64 (x (k + 1)).b0)).setCell ⟨s + 1, 1, none⟩ (.int .i64 (x (k + 1)).b1)).setCell ⟨s + 1, 2, none⟩ (.int .i64 (x (k + 1)).w0)).setCell ⟨s + 1, 3, none⟩ (.int .i64 (x (k + 1)).w1)).setCell ⟨s + 1, 4, none⟩ (.int .i64 (x (k + 1)).q0)).setCell ⟨s + 1, 5, none⟩ (.int .i64 (x (k + 1)).q1)).setCell ⟨s + 1, 6, none⟩ (.int .i64 (x (k + 1)).s0)).setCell ⟨s + 1, 7, none⟩ (.int .i64 (x (k + 1)).s1)) := by
        iterate 8 refine HJ.out.2 _ _ _ _ ?_
        exact hJ2
      obtain ⟨e0, e1, e2, e3, e4, e5, e6, e7⟩ := hI3.ice.c8
      obtain ⟨fn, tmps, assign, body, hy, hR⟩ := HY.out k _ hlt hJ3 hI3
      clear hI3 hJ3 hI2 hJ2
      gi_wp2
      refine ⟨fun h => (by simp [Fence.wide] at h), ?_⟩
      refine hR.mono ?_
      rintro e W3 ⟨rfl, hJ4, hI4⟩
      gi_wp2
      go_roundw
      case rel => exact ⟨k + 1, by omega, by go_num, hJ4, hI4⟩
      case measure => simp [intOf]; omega
    · gi_wp2
      obtain rfl : k = m := by omega
      go_end0
      exact ⟨⟨_, rfl⟩, hJk, hIk⟩
end Go.Proofs.YtdbiijldincoiaaGreat

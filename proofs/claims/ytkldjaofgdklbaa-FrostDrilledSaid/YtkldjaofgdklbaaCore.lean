/-
  frost.Core, whatever the two of ice are.
-/
import Derived.Test.YtkldjaofgdklbaaVal0
import Derived.Test.YtkldjaofgdklbaaKit
import Derived.Test.YtkldjaofgdklbaaStep
import Derived.Test.YtkldjaofgdklbaaTail
set_option linter.unusedVariables false
set_option linter.unusedSimpArgs false
namespace Go.Proofs.Ytkldjaofgdklbaa
open Go.RowKit

def coI (x c : Ic) : Ic := ⟨(max x.b0 c.b0), (min x.b1 c.b1), (max x.w0 c.w0), (min x.w1 c.w1), (max x.q0 c.q0), (min x.q1 c.q1), (max x.s0 c.s0), (min x.s1 c.s1)⟩
def coT (x c : Ic) : Prop := min x.b1 c.b1 < max x.b0 c.b0 ∨ min x.w1 c.w1 < max x.w0 c.w0 ∨ min x.q1 c.q1 < max x.q0 c.q0 ∨ min x.s1 c.s1 < max x.s0 c.s0
open Classical in
noncomputable def coE (x c : Ic) : Int := orE (orE x.e c.e) (if coT x c then 12 else 0)
open Classical in
noncomputable def coV (x c : Ic) : Value := if coE x c = 0 then .agg #[.int .i64 (max x.b0 c.b0), .int .i64 (min x.b1 c.b1), .int .i64 (max x.w0 c.w0), .int .i64 (min x.w1 c.w1), .int .i64 (max x.q0 c.q0), .int .i64 (min x.q1 c.q1), .int .i64 (max x.s0 c.s0), .int .i64 (min x.s1 c.s1)] else .agg #[.int .i64 0, .int .i64 0, .int .i64 0, .int .i64 0, .int .i64 0, .int .i64 0, .int .i64 0, .int .i64 0]

theorem co_bad {x c : Ic} (h : orE x.e c.e ≠ 0) : coE x c = orE x.e c.e ∧ coV x c = .agg #[.int .i64 0, .int .i64 0, .int .i64 0, .int .i64 0, .int .i64 0, .int .i64 0, .int .i64 0, .int .i64 0] := by
  have e : coE x c = orE x.e c.e := by unfold coE orE; rw [if_neg (by simpa [orE] using h)]
  exact ⟨e, by unfold coV; rw [e, if_neg h]⟩
theorem co_clash {x c : Ic} (h : orE x.e c.e = 0) (t : coT x c) : coE x c = 12 ∧ coV x c = .agg #[.int .i64 0, .int .i64 0, .int .i64 0, .int .i64 0, .int .i64 0, .int .i64 0, .int .i64 0, .int .i64 0] := by
  have e : coE x c = 12 := by unfold coE; rw [h, if_pos t]; rfl
  exact ⟨e, by unfold coV; rw [e, if_neg (by decide)]⟩
theorem co_ok {x c : Ic} (h : orE x.e c.e = 0) (t : ¬ coT x c) : coE x c = 0 ∧ coV x c = .agg #[.int .i64 (max x.b0 c.b0), .int .i64 (min x.b1 c.b1), .int .i64 (max x.w0 c.w0), .int .i64 (min x.w1 c.w1), .int .i64 (max x.q0 c.q0), .int .i64 (min x.q1 c.q1), .int .i64 (max x.s0 c.s0), .int .i64 (min x.s1 c.s1)] := by
  have e : coE x c = 0 := by unfold coE; rw [h, if_neg t]; rfl
  exact ⟨e, by unfold coV; rw [e, if_pos rfl]⟩

set_option maxRecDepth 100000 in
set_option maxHeartbeats 8000000 in
theorem core_any (x c : Ic) (w : World) :
    Calls Try.prog 27 #[.agg #[.int .i64 x.b0, .int .i64 x.b1, .int .i64 x.w0, .int .i64 x.w1, .int .i64 x.q0, .int .i64 x.q1, .int .i64 x.s0, .int .i64 x.s1], .agg #[.int .i64 c.b0, .int .i64 c.b1, .int .i64 c.w0, .int .i64 c.w1, .int .i64 c.q0, .int .i64 c.q1, .int .i64 c.s0, .int .i64 c.s1]] w fun e w' => e = .returned (.tuple #[coV x c, .int .i64 (coE x c)]) ∧ Below w.heap.size w w' := by
  have HX : Hid (∀ W, Calls Try.prog 21 #[.agg #[.int .i64 x.b0, .int .i64 x.b1, .int .i64 x.w0, .int .i64 x.w1, .int .i64 x.q0, .int .i64 x.q1, .int .i64 x.s0, .int .i64 x.s1]] W fun e w' => e = .returned (.int .i64 x.e) ∧ Below W.heap.size W w') := fun W => ice_any _ _ _ _ _ _ _ _ W
  have HC : Hid (∀ W, Calls Try.prog 21 #[.agg #[.int .i64 c.b0, .int .i64 c.b1, .int .i64 c.w0, .int .i64 c.w1, .int .i64 c.q0, .int .i64 c.q1, .int .i64 c.s0, .int .i64 c.s1]] W fun e w' => e = .returned (.int .i64 c.e) ∧ Below W.heap.size W w') := fun W => ice_any _ _ _ _ _ _ _ _ W
  have iX := (Blk.new w #[.int .i64 x.b0, .int .i64 x.b1, .int .i64 x.w0, .int .i64 x.w1, .int .i64 x.q0, .int .i64 x.q1, .int .i64 x.s0, .int .i64 x.s1] 28).alloc (.cells #[.int .i64 c.b0, .int .i64 c.b1, .int .i64 c.w0, .int .i64 c.w1, .int .i64 c.q0, .int .i64 c.q1, .int .i64 c.s0, .int .i64 c.s1] 28) |>.alloc (.cells #[.int .i64 0, .int .i64 0, .int .i64 0, .int .i64 0, .int .i64 0, .int .i64 0, .int .i64 0, .int .i64 0] 28)
  have iC := (Blk.new1 w (.cells #[.int .i64 x.b0, .int .i64 x.b1, .int .i64 x.w0, .int .i64 x.w1, .int .i64 x.q0, .int .i64 x.q1, .int .i64 x.s0, .int .i64 x.s1] 28) #[.int .i64 c.b0, .int .i64 c.b1, .int .i64 c.w0, .int .i64 c.w1, .int .i64 c.q0, .int .i64 c.q1, .int .i64 c.s0, .int .i64 c.s1] 28).alloc (.cells #[.int .i64 0, .int .i64 0, .int .i64 0, .int .i64 0, .int .i64 0, .int .i64 0, .int .i64 0, .int .i64 0] 28)
  have iR := Blk.new2 w (.cells #[.int .i64 x.b0, .int .i64 x.b1, .int .i64 x.w0, .int .i64 x.w1, .int .i64 x.q0, .int .i64 x.q1, .int .i64 x.s0, .int .i64 x.s1] 28) (.cells #[.int .i64 c.b0, .int .i64 c.b1, .int .i64 c.w0, .int .i64 c.w1, .int .i64 c.q0, .int .i64 c.q1, .int .i64 c.s0, .int .i64 c.s1] 28) #[.int .i64 0, .int .i64 0, .int .i64 0, .int .i64 0, .int .i64 0, .int .i64 0, .int .i64 0, .int .i64 0] 28
  have iB : Below w.heap.size w (((w.alloc (.cells #[.int .i64 x.b0, .int .i64 x.b1, .int .i64 x.w0, .int .i64 x.w1, .int .i64 x.q0, .int .i64 x.q1, .int .i64 x.s0, .int .i64 x.s1] 28)).alloc (.cells #[.int .i64 c.b0, .int .i64 c.b1, .int .i64 c.w0, .int .i64 c.w1, .int .i64 c.q0, .int .i64 c.q1, .int .i64 c.s0, .int .i64 c.s1] 28)).alloc (.cells #[.int .i64 0, .int .i64 0, .int .i64 0, .int .i64 0, .int .i64 0, .int .i64 0, .int .i64 0, .int .i64 0] 28)) := by (repeat (first | exact Below.refl _ _ | assumption | refine Below.drew ?_ | refine Below.drewN ?_ _ | refine blT ?_ | refine blU ?_))
  generalize hE : orE x.e c.e = E
  go_enter Try.func27, Try.ntmps27
  have HE := Lib.hid hE
  clear hE
  go_wp2_with fail
  refine wp_region_held_drew (S := (fun w' => Blk w' w.heap.size #[.int .i64 x.b0, .int .i64 x.b1, .int .i64 x.w0, .int .i64 x.w1, .int .i64 x.q0, .int .i64 x.q1, .int .i64 x.s0, .int .i64 x.s1] 28 ∧ Blk w' (w.heap.size + 1) #[.int .i64 c.b0, .int .i64 c.b1, .int .i64 c.w0, .int .i64 c.w1, .int .i64 c.q0, .int .i64 c.q1, .int .i64 c.s0, .int .i64 c.s1] 28 ∧ Blk w' (w.heap.size + 1 + 1) #[.int .i64 0, .int .i64 0, .int .i64 0, .int .i64 0, .int .i64 0, .int .i64 0, .int .i64 0, .int .i64 0] 28 ∧ Below w.heap.size w w')) (by kernel_rfl) ?_ (fun hH => ?_)
  · (try dsimp only); (exact ⟨iX.drew, iC.drew, iR.drew, iB.drew⟩)
  refine tkY 0 (some 10) ?_ ?_ ?_
  rotate_left
  · intro w hS0; (try dsimp only at hS0); obtain ⟨kX, kC, _, _⟩ := hS0; obtain ⟨a0, a1, a2, a3, a4, a5, a6, a7⟩ := kX.c8; obtain ⟨b0, b1, b2, b3, b4, b5, b6, b7⟩ := kC.c8;go_simp; (try with_reducible rfl)
  (try simp only [cq])
  refine tkY 2 (some 12) ?_ ?_ ?_
  rotate_left
  · intro w hS0; (try dsimp only at hS0); obtain ⟨kX, kC, _, _⟩ := hS0; obtain ⟨a0, a1, a2, a3, a4, a5, a6, a7⟩ := kX.c8; obtain ⟨b0, b1, b2, b3, b4, b5, b6, b7⟩ := kC.c8;go_simp; (try with_reducible rfl)
  (try simp only [cq])
  refine wpAnyH_ready (rs := [1]) (by kernel_rfl) (by simp) ?_
  refine arc1 (some 11) fun K hK => ?_
  go_simp
  (refine (HX.out _).mono ?_; rintro e w' ⟨rfl, hb⟩)
  refine hK.out _ _ ?_ ?_
  · (exact ⟨hH.1.call hb, hH.2.1.call hb, hH.2.2.1.call hb, bwS hH.2.2.2 (Nat.le_refl _) hb⟩)
  (try clear hH); (try clear hb)
  intro hH
  clear hK K
  (try simp only [cq])
  refine wpAnyH_ready (rs := [3]) (by kernel_rfl) (by simp) ?_
  refine arc1 (some 13) fun K hK => ?_
  go_simp
  (refine (HC.out _).mono ?_; rintro e w' ⟨rfl, hb⟩)
  refine hK.out _ _ ?_ ?_
  · (exact ⟨hH.1.call hb, hH.2.1.call hb, hH.2.2.1.call hb, bwS hH.2.2.2 (Nat.le_refl _) hb⟩)
  (try clear hH); (try clear hb)
  intro hH
  clear hK K
  (try simp only [cq])
  refine wpAnyH_ready (rs := [4]) (by kernel_rfl) (by simp) ?_
  refine arc1 (some 14) fun K hK => ?_
  go_simp
  refine hK.out _ _ ?_ ?_
  · exact ⟨hH.1.alloc _, hH.2.1.alloc _, hH.2.2.1.alloc _, bwA hH.2.2.2 (Nat.le_refl _) _⟩
  (try clear hH); (try clear hb)
  intro hH
  clear hK K
  (try simp only [cq])
  refine wpAnyH_ready (rs := [5]) (by kernel_rfl) (by simp) ?_
  refine arc1 (some 15) fun K hK => ?_
  go_simp
  (refine (first_two _ _ x.e c.e _ ?_ ?_).mono ?_; simp; simp; rintro e w' ⟨rfl, rfl⟩)
  refine hK.out _ _ ?_ ?_
  · exact hH
  (try clear hH); (try clear hb)
  intro hH
  clear hK K
  (try simp only [cq])
  refine tkY 6 (some 6) ?_ ?_ ?_
  rotate_left
  · intro w _; go_simp; (try with_reducible rfl)
  (try simp only [cq])
  refine wpAnyH_done (by kernel_rfl) ?_ _
  (try dsimp only [Act.put])
  (try simp only [cq])
  obtain ⟨jX, jC, jR, jB⟩ := hH
  clear iX iC iR iB HX HC
  rw [HE.out]
  by_cases h0 : E = 0
  case neg =>
    have hE := HE.out
    have HP := Lib.hid (co_bad (x := x) (c := c) (by rw [hE]; exact h0))
    rw [hE] at HP
    have h1 : (E != 0) = true := by simpa using h0
    obtain ⟨r0, r1, r2, r3, r4, r5, r6, r7⟩ := jR.c8
    have f0 := jR.free 0
    have f1 := jR.free 1
    have f2 := jR.free 2
    have f3 := jR.free 3
    have f4 := jR.free 4
    have f5 := jR.free 5
    have f6 := jR.free 6
    have f7 := jR.free 7
    have zR := jR.lt
    have HQ := Lib.hid (jR.set8 (.int .i64 0) (.int .i64 0) (.int .i64 0) (.int .i64 0) (.int .i64 0) (.int .i64 0) (.int .i64 0) (.int .i64 0)).c8
    clear hE h0 jX jC jR
    go_wp2
    obtain ⟨z0, z1, z2, z3, z4, z5, z6, z7⟩ := HQ.out
    refine bodyPost_ret (v := .tuple #[.agg #[.int .i64 0, .int .i64 0, .int .i64 0, .int .i64 0, .int .i64 0, .int .i64 0, .int .i64 0, .int .i64 0], .int .i64 E]) (by simp [results, Try.results27, go_sem, z0, z1, z2, z3, z4, z5, z6, z7]) rfl ⟨by rw [HP.out.1, HP.out.2], ?_⟩
    iterate 8 refine Below.setCell ?_ (by simp; omega) _
    exact jB
  have hE := HE.out
  rw [h0] at hE
  subst h0
  clear HE
  have HE := Lib.hid hE
  clear hE
  obtain ⟨a0, a1, a2, a3, a4, a5, a6, a7⟩ := jX.c8
  have zX := jX.lt
  go_wp2_with fail
  refine (known_any _ _ _ _ _ _ _ _ _).mono ?_
  rintro e w1 ⟨rfl, hb⟩
  replace jC := jC.call hb
  replace jR := jR.call hb
  replace jB := bwS jB (Nat.le_refl _) hb
  clear hb jX a0 a1 a2 a3 a4 a5 a6 a7 zX
  have hY : w.heap.size + 1 + 1 < w1.heap.size := jR.lt
  have jY := Blk.new w1 #[.int .i64 x.b0, .int .i64 x.b1, .int .i64 x.w0, .int .i64 x.w1, .int .i64 x.q0, .int .i64 x.q1, .int .i64 x.s0, .int .i64 x.s1] 99
  replace jC := jC.alloc (.cells #[.int .i64 x.b0, .int .i64 x.b1, .int .i64 x.w0, .int .i64 x.w1, .int .i64 x.q0, .int .i64 x.q1, .int .i64 x.s0, .int .i64 x.s1] 99)
  replace jR := jR.alloc (.cells #[.int .i64 x.b0, .int .i64 x.b1, .int .i64 x.w0, .int .i64 x.w1, .int .i64 x.q0, .int .i64 x.q1, .int .i64 x.s0, .int .i64 x.s1] 99)
  replace jB := bwA jB (Nat.le_refl _) (.cells #[.int .i64 x.b0, .int .i64 x.b1, .int .i64 x.w0, .int .i64 x.w1, .int .i64 x.q0, .int .i64 x.q1, .int .i64 x.s0, .int .i64 x.s1] 99)
  obtain ⟨c0, c1, c2, c3, c4, c5, c6, c7⟩ := jC.c8
  have zC := jC.lt
  have zR := jR.lt
  go_wp2_with fail
  refine (known_any _ _ _ _ _ _ _ _ _).mono ?_
  rintro e w2 ⟨rfl, hb⟩
  replace jY := jY.call hb
  replace jR := jR.call hb
  replace jB := bwS jB (Nat.le_refl _) hb
  clear hb jC c0 c1 c2 c3 c4 c5 c6 c7 zC zR
  obtain ⟨bY, hbY⟩ : ∃ b, w1.heap.size = b := ⟨_, rfl⟩
  rw [hbY] at jY hY ⊢
  clear hbY
  have i0 : ∀ w, (Instr.index 99 (.agg #[.int .i64 c.b0, .int .i64 c.b1, .int .i64 c.w0, .int .i64 c.w1, .int .i64 c.q0, .int .i64 c.q1, .int .i64 c.s0, .int .i64 c.s1]) (.int .i64 0)).run Try.prog w = .ok (.agg #[.int .i64 c.b0, .int .i64 c.b1]) w := fun _ => by kernel_rfl
  have i1 : ∀ w, (Instr.index 99 (.agg #[.int .i64 c.b0, .int .i64 c.b1, .int .i64 c.w0, .int .i64 c.w1, .int .i64 c.q0, .int .i64 c.q1, .int .i64 c.s0, .int .i64 c.s1]) (.int .i64 1)).run Try.prog w = .ok (.agg #[.int .i64 c.w0, .int .i64 c.w1]) w := fun _ => by kernel_rfl
  have i2 : ∀ w, (Instr.index 99 (.agg #[.int .i64 c.b0, .int .i64 c.b1, .int .i64 c.w0, .int .i64 c.w1, .int .i64 c.q0, .int .i64 c.q1, .int .i64 c.s0, .int .i64 c.s1]) (.int .i64 2)).run Try.prog w = .ok (.agg #[.int .i64 c.q0, .int .i64 c.q1]) w := fun _ => by kernel_rfl
  have i3 : ∀ w, (Instr.index 99 (.agg #[.int .i64 c.b0, .int .i64 c.b1, .int .i64 c.w0, .int .i64 c.w1, .int .i64 c.q0, .int .i64 c.q1, .int .i64 c.s0, .int .i64 c.s1]) (.int .i64 3)).run Try.prog w = .ok (.agg #[.int .i64 c.s0, .int .i64 c.s1]) w := fun _ => by kernel_rfl
  go_wp2_with fail
  go_loopw [24] (fun i wr => ∃ k : Nat, k ≤ 4 ∧ i = .int .i64 k ∧ (k = 0 → Blk wr bY #[.int .i64 x.b0, .int .i64 x.b1, .int .i64 x.w0, .int .i64 x.w1, .int .i64 x.q0, .int .i64 x.q1, .int .i64 x.s0, .int .i64 x.s1] 99) ∧ (k = 1 → Blk wr bY #[.int .i64 (max x.b0 c.b0), .int .i64 (min x.b1 c.b1), .int .i64 x.w0, .int .i64 x.w1, .int .i64 x.q0, .int .i64 x.q1, .int .i64 x.s0, .int .i64 x.s1] 99) ∧ (k = 2 → Blk wr bY #[.int .i64 (max x.b0 c.b0), .int .i64 (min x.b1 c.b1), .int .i64 (max x.w0 c.w0), .int .i64 (min x.w1 c.w1), .int .i64 x.q0, .int .i64 x.q1, .int .i64 x.s0, .int .i64 x.s1] 99) ∧ (k = 3 → Blk wr bY #[.int .i64 (max x.b0 c.b0), .int .i64 (min x.b1 c.b1), .int .i64 (max x.w0 c.w0), .int .i64 (min x.w1 c.w1), .int .i64 (max x.q0 c.q0), .int .i64 (min x.q1 c.q1), .int .i64 x.s0, .int .i64 x.s1] 99) ∧ (k = 4 → Blk wr bY #[.int .i64 (max x.b0 c.b0), .int .i64 (min x.b1 c.b1), .int .i64 (max x.w0 c.w0), .int .i64 (min x.w1 c.w1), .int .i64 (max x.q0 c.q0), .int .i64 (min x.q1 c.q1), .int .i64 (max x.s0 c.s0), .int .i64 (min x.s1 c.s1)] 99) ∧ Blk wr (w.heap.size + 1 + 1) #[.int .i64 0, .int .i64 0, .int .i64 0, .int .i64 0, .int .i64 0, .int .i64 0, .int .i64 0, .int .i64 0] 28 ∧ Below w.heap.size w wr ∧ Hid ((0 < k → max x.b0 c.b0 ≤ min x.b1 c.b1) ∧ (1 < k → max x.w0 c.w0 ≤ min x.w1 c.w1) ∧ (2 < k → max x.q0 c.q0 ≤ min x.q1 c.q1) ∧ (3 < k → max x.s0 c.s0 ≤ min x.s1 c.s1))) (fun i _ => 4 - (intOf i).toNat)
  case atStart => exact ⟨0, by omega, rfl, fun _ => jY, fun h => (by omega), fun h => (by omega), fun h => (by omega), fun h => (by omega), jR, jB, ⟨fun h => (by omega), fun h => (by omega), fun h => (by omega), fun h => (by omega)⟩⟩
  case round =>
    obtain ⟨k, hk, rfl, g0, g1, g2, g3, g4, hR, hB, hN⟩ := hrel
    clear jY jR jB
    obtain rfl | rfl | rfl | rfl | rfl : k = 0 ∨ k = 1 ∨ k = 2 ∨ k = 3 ∨ k = 4 := by omega
    · -- round 0
      have hY1 := g0 rfl
      clear g0 g1 g2 g3 g4
      have qY := hY1.alloc (.cells #[.int .i64 c.b0, .int .i64 c.b1] 24)
      have qS := Blk.new wr #[.int .i64 c.b0, .int .i64 c.b1] 24
      have qR := hR.alloc (.cells #[.int .i64 c.b0, .int .i64 c.b1] 24)
      have qB := bwA hB (Nat.le_refl _) (.cells #[.int .i64 c.b0, .int .i64 c.b1] 24)
      clear hY1 hR hB i1 i2 i3
      go_wp2_with fail
      generalize wr.alloc (.cells #[.int .i64 c.b0, .int .i64 c.b1] 24) = V at qY qS qR qB ⊢
      generalize wr.heap.size = bS at qS ⊢
      refine region_tail 17 (by kernel_rfl) (by kernel_rfl) (fun U hU => ?_)
      replace qY := qY.drew
      replace qS := qS.drew
      replace qR := qR.drew
      replace qB := qB.drew
      rw [hU] at qY qS qR qB
      clear hU
      obtain ⟨a0, a1, a2, a3, a4, a5, a6, a7⟩ := qY.c8
      obtain ⟨s0, s1⟩ := qS.c2
      have f0 := qY.free 0
      have f1 := qY.free 1
      have zY := qY.lt
      have zS := qS.lt
      simp only [List.take_succ_cons, List.take_zero, List.drop_succ_cons, List.drop_zero]
      repeat still_step
      refine wpStill_nil ?_
      have qY2 : Blk ((U.setCell ⟨bY, 0, none⟩ (.int .i64 (max x.b0 c.b0))).setCell ⟨bY, 1, none⟩ (.int .i64 (min x.b1 c.b1))) bY #[.int .i64 (max x.b0 c.b0), .int .i64 (min x.b1 c.b1), .int .i64 x.w0, .int .i64 x.w1, .int .i64 x.q0, .int .i64 x.q1, .int .i64 x.s0, .int .i64 x.s1] 99 := (qY.set 0 _).set 1 _
      have qR2 := (qR.other ⟨bY, 0, none⟩ (.int .i64 (max x.b0 c.b0)) (by simp; omega)).other ⟨bY, 1, none⟩ (.int .i64 (min x.b1 c.b1)) (by simp; omega)
      have qB2 := (qB.setCell (p := ⟨bY, 0, none⟩) (by simp; omega) (.int .i64 (max x.b0 c.b0))).setCell (p := ⟨bY, 1, none⟩) (by simp; omega) (.int .i64 (min x.b1 c.b1))
      go_wp2_with fail
      clear a0 a1 a2 a3 a4 a5 a6 a7 s0 s1 f0 f1 qY qS qR qB zY zS
      generalize ((U.setCell ⟨bY, 0, none⟩ (.int .i64 (max x.b0 c.b0))).setCell ⟨bY, 1, none⟩ (.int .i64 (min x.b1 c.b1))) = U2 at qY2 qR2 qB2 ⊢
      refine region_still (by kernel_rfl) (by kernel_rfl) (fun U3 hU => ?_)
      replace qY2 := qY2.drew
      replace qR2 := qR2.drew
      replace qB2 := qB2.drew
      rw [hU] at qY2 qR2 qB2
      clear hU
      obtain ⟨a0, a1, a2, a3, a4, a5, a6, a7⟩ := qY2.c8
      have zY := qY2.lt
      repeat still_step
      refine wpStill_nil ?_
      clear a0 a1 a2 a3 a4 a5 a6 a7 zY
      by_cases hcl : (min x.b1 c.b1) < (max x.b0 c.b0)
      · have HP := Lib.hid (co_clash HE.out (.inl hcl))
        obtain ⟨r0, r1, r2, r3, r4, r5, r6, r7⟩ := qR2.c8
        have f0 := qR2.free 0
        have f1 := qR2.free 1
        have f2 := qR2.free 2
        have f3 := qR2.free 3
        have f4 := qR2.free 4
        have f5 := qR2.free 5
        have f6 := qR2.free 6
        have f7 := qR2.free 7
        have zR := qR2.lt
        have HQ := Lib.hid (qR2.set8 (.int .i64 0) (.int .i64 0) (.int .i64 0) (.int .i64 0) (.int .i64 0) (.int .i64 0) (.int .i64 0) (.int .i64 0)).c8
        clear qY2 qR2
        go_wp2
        obtain ⟨z0, z1, z2, z3, z4, z5, z6, z7⟩ := HQ.out
        refine bodyPost_ret (v := .tuple #[.agg #[.int .i64 0, .int .i64 0, .int .i64 0, .int .i64 0, .int .i64 0, .int .i64 0, .int .i64 0, .int .i64 0], .int .i64 12]) (by simp [results, Try.results27, go_sem, z0, z1, z2, z3, z4, z5, z6, z7]) rfl ⟨by rw [HP.out.1, HP.out.2], ?_⟩
        iterate 8 refine Below.setCell ?_ (by simp; omega) _
        exact qB2
      · go_wp2
        go_roundw
        case rel => exact ⟨1, by omega, by go_num, fun h => (by omega), fun _ => qY2, fun h => (by omega), fun h => (by omega), fun h => (by omega), qR2, qB2, ⟨fun _ => by omega, fun h => (by omega), fun h => (by omega), fun h => (by omega)⟩⟩
        case measure => simp [intOf]
    · -- round 1
      have hY1 := g1 rfl
      clear g0 g1 g2 g3 g4
      have qY := hY1.alloc (.cells #[.int .i64 c.w0, .int .i64 c.w1] 24)
      have qS := Blk.new wr #[.int .i64 c.w0, .int .i64 c.w1] 24
      have qR := hR.alloc (.cells #[.int .i64 c.w0, .int .i64 c.w1] 24)
      have qB := bwA hB (Nat.le_refl _) (.cells #[.int .i64 c.w0, .int .i64 c.w1] 24)
      clear hY1 hR hB i0 i2 i3
      go_wp2_with fail
      generalize wr.alloc (.cells #[.int .i64 c.w0, .int .i64 c.w1] 24) = V at qY qS qR qB ⊢
      generalize wr.heap.size = bS at qS ⊢
      refine region_tail 17 (by kernel_rfl) (by kernel_rfl) (fun U hU => ?_)
      replace qY := qY.drew
      replace qS := qS.drew
      replace qR := qR.drew
      replace qB := qB.drew
      rw [hU] at qY qS qR qB
      clear hU
      obtain ⟨a0, a1, a2, a3, a4, a5, a6, a7⟩ := qY.c8
      obtain ⟨s0, s1⟩ := qS.c2
      have f0 := qY.free 2
      have f1 := qY.free 3
      have zY := qY.lt
      have zS := qS.lt
      simp only [List.take_succ_cons, List.take_zero, List.drop_succ_cons, List.drop_zero]
      repeat still_step
      refine wpStill_nil ?_
      have qY2 : Blk ((U.setCell ⟨bY, 2, none⟩ (.int .i64 (max x.w0 c.w0))).setCell ⟨bY, 3, none⟩ (.int .i64 (min x.w1 c.w1))) bY #[.int .i64 (max x.b0 c.b0), .int .i64 (min x.b1 c.b1), .int .i64 (max x.w0 c.w0), .int .i64 (min x.w1 c.w1), .int .i64 x.q0, .int .i64 x.q1, .int .i64 x.s0, .int .i64 x.s1] 99 := (qY.set 2 _).set 3 _
      have qR2 := (qR.other ⟨bY, 2, none⟩ (.int .i64 (max x.w0 c.w0)) (by simp; omega)).other ⟨bY, 3, none⟩ (.int .i64 (min x.w1 c.w1)) (by simp; omega)
      have qB2 := (qB.setCell (p := ⟨bY, 2, none⟩) (by simp; omega) (.int .i64 (max x.w0 c.w0))).setCell (p := ⟨bY, 3, none⟩) (by simp; omega) (.int .i64 (min x.w1 c.w1))
      go_wp2_with fail
      clear a0 a1 a2 a3 a4 a5 a6 a7 s0 s1 f0 f1 qY qS qR qB zY zS
      generalize ((U.setCell ⟨bY, 2, none⟩ (.int .i64 (max x.w0 c.w0))).setCell ⟨bY, 3, none⟩ (.int .i64 (min x.w1 c.w1))) = U2 at qY2 qR2 qB2 ⊢
      refine region_still (by kernel_rfl) (by kernel_rfl) (fun U3 hU => ?_)
      replace qY2 := qY2.drew
      replace qR2 := qR2.drew
      replace qB2 := qB2.drew
      rw [hU] at qY2 qR2 qB2
      clear hU
      obtain ⟨a0, a1, a2, a3, a4, a5, a6, a7⟩ := qY2.c8
      have zY := qY2.lt
      repeat still_step
      refine wpStill_nil ?_
      clear a0 a1 a2 a3 a4 a5 a6 a7 zY
      by_cases hcl : (min x.w1 c.w1) < (max x.w0 c.w0)
      · have HP := Lib.hid (co_clash HE.out (.inr (.inl hcl)))
        obtain ⟨r0, r1, r2, r3, r4, r5, r6, r7⟩ := qR2.c8
        have f0 := qR2.free 0
        have f1 := qR2.free 1
        have f2 := qR2.free 2
        have f3 := qR2.free 3
        have f4 := qR2.free 4
        have f5 := qR2.free 5
        have f6 := qR2.free 6
        have f7 := qR2.free 7
        have zR := qR2.lt
        have HQ := Lib.hid (qR2.set8 (.int .i64 0) (.int .i64 0) (.int .i64 0) (.int .i64 0) (.int .i64 0) (.int .i64 0) (.int .i64 0) (.int .i64 0)).c8
        clear qY2 qR2
        go_wp2
        obtain ⟨z0, z1, z2, z3, z4, z5, z6, z7⟩ := HQ.out
        refine bodyPost_ret (v := .tuple #[.agg #[.int .i64 0, .int .i64 0, .int .i64 0, .int .i64 0, .int .i64 0, .int .i64 0, .int .i64 0, .int .i64 0], .int .i64 12]) (by simp [results, Try.results27, go_sem, z0, z1, z2, z3, z4, z5, z6, z7]) rfl ⟨by rw [HP.out.1, HP.out.2], ?_⟩
        iterate 8 refine Below.setCell ?_ (by simp; omega) _
        exact qB2
      · go_wp2
        go_roundw
        case rel => exact ⟨2, by omega, by go_num, fun h => (by omega), fun h => (by omega), fun _ => qY2, fun h => (by omega), fun h => (by omega), qR2, qB2, ⟨fun _ => hN.out.1 (by omega), fun _ => by omega, fun h => (by omega), fun h => (by omega)⟩⟩
        case measure => simp [intOf]
    · -- round 2
      have hY1 := g2 rfl
      clear g0 g1 g2 g3 g4
      have qY := hY1.alloc (.cells #[.int .i64 c.q0, .int .i64 c.q1] 24)
      have qS := Blk.new wr #[.int .i64 c.q0, .int .i64 c.q1] 24
      have qR := hR.alloc (.cells #[.int .i64 c.q0, .int .i64 c.q1] 24)
      have qB := bwA hB (Nat.le_refl _) (.cells #[.int .i64 c.q0, .int .i64 c.q1] 24)
      clear hY1 hR hB i0 i1 i3
      go_wp2_with fail
      generalize wr.alloc (.cells #[.int .i64 c.q0, .int .i64 c.q1] 24) = V at qY qS qR qB ⊢
      generalize wr.heap.size = bS at qS ⊢
      refine region_tail 17 (by kernel_rfl) (by kernel_rfl) (fun U hU => ?_)
      replace qY := qY.drew
      replace qS := qS.drew
      replace qR := qR.drew
      replace qB := qB.drew
      rw [hU] at qY qS qR qB
      clear hU
      obtain ⟨a0, a1, a2, a3, a4, a5, a6, a7⟩ := qY.c8
      obtain ⟨s0, s1⟩ := qS.c2
      have f0 := qY.free 4
      have f1 := qY.free 5
      have zY := qY.lt
      have zS := qS.lt
      simp only [List.take_succ_cons, List.take_zero, List.drop_succ_cons, List.drop_zero]
      repeat still_step
      refine wpStill_nil ?_
      have qY2 : Blk ((U.setCell ⟨bY, 4, none⟩ (.int .i64 (max x.q0 c.q0))).setCell ⟨bY, 5, none⟩ (.int .i64 (min x.q1 c.q1))) bY #[.int .i64 (max x.b0 c.b0), .int .i64 (min x.b1 c.b1), .int .i64 (max x.w0 c.w0), .int .i64 (min x.w1 c.w1), .int .i64 (max x.q0 c.q0), .int .i64 (min x.q1 c.q1), .int .i64 x.s0, .int .i64 x.s1] 99 := (qY.set 4 _).set 5 _
      have qR2 := (qR.other ⟨bY, 4, none⟩ (.int .i64 (max x.q0 c.q0)) (by simp; omega)).other ⟨bY, 5, none⟩ (.int .i64 (min x.q1 c.q1)) (by simp; omega)
      have qB2 := (qB.setCell (p := ⟨bY, 4, none⟩) (by simp; omega) (.int .i64 (max x.q0 c.q0))).setCell (p := ⟨bY, 5, none⟩) (by simp; omega) (.int .i64 (min x.q1 c.q1))
      go_wp2_with fail
      clear a0 a1 a2 a3 a4 a5 a6 a7 s0 s1 f0 f1 qY qS qR qB zY zS
      generalize ((U.setCell ⟨bY, 4, none⟩ (.int .i64 (max x.q0 c.q0))).setCell ⟨bY, 5, none⟩ (.int .i64 (min x.q1 c.q1))) = U2 at qY2 qR2 qB2 ⊢
      refine region_still (by kernel_rfl) (by kernel_rfl) (fun U3 hU => ?_)
      replace qY2 := qY2.drew
      replace qR2 := qR2.drew
      replace qB2 := qB2.drew
      rw [hU] at qY2 qR2 qB2
      clear hU
      obtain ⟨a0, a1, a2, a3, a4, a5, a6, a7⟩ := qY2.c8
      have zY := qY2.lt
      repeat still_step
      refine wpStill_nil ?_
      clear a0 a1 a2 a3 a4 a5 a6 a7 zY
      by_cases hcl : (min x.q1 c.q1) < (max x.q0 c.q0)
      · have HP := Lib.hid (co_clash HE.out (.inr (.inr (.inl hcl))))
        obtain ⟨r0, r1, r2, r3, r4, r5, r6, r7⟩ := qR2.c8
        have f0 := qR2.free 0
        have f1 := qR2.free 1
        have f2 := qR2.free 2
        have f3 := qR2.free 3
        have f4 := qR2.free 4
        have f5 := qR2.free 5
        have f6 := qR2.free 6
        have f7 := qR2.free 7
        have zR := qR2.lt
        have HQ := Lib.hid (qR2.set8 (.int .i64 0) (.int .i64 0) (.int .i64 0) (.int .i64 0) (.int .i64 0) (.int .i64 0) (.int .i64 0) (.int .i64 0)).c8
        clear qY2 qR2
        go_wp2
        obtain ⟨z0, z1, z2, z3, z4, z5, z6, z7⟩ := HQ.out
        refine bodyPost_ret (v := .tuple #[.agg #[.int .i64 0, .int .i64 0, .int .i64 0, .int .i64 0, .int .i64 0, .int .i64 0, .int .i64 0, .int .i64 0], .int .i64 12]) (by simp [results, Try.results27, go_sem, z0, z1, z2, z3, z4, z5, z6, z7]) rfl ⟨by rw [HP.out.1, HP.out.2], ?_⟩
        iterate 8 refine Below.setCell ?_ (by simp; omega) _
        exact qB2
      · go_wp2
        go_roundw
        case rel => exact ⟨3, by omega, by go_num, fun h => (by omega), fun h => (by omega), fun h => (by omega), fun _ => qY2, fun h => (by omega), qR2, qB2, ⟨fun _ => hN.out.1 (by omega), fun _ => hN.out.2.1 (by omega), fun _ => by omega, fun h => (by omega)⟩⟩
        case measure => simp [intOf]
    · -- round 3
      have hY1 := g3 rfl
      clear g0 g1 g2 g3 g4
      have qY := hY1.alloc (.cells #[.int .i64 c.s0, .int .i64 c.s1] 24)
      have qS := Blk.new wr #[.int .i64 c.s0, .int .i64 c.s1] 24
      have qR := hR.alloc (.cells #[.int .i64 c.s0, .int .i64 c.s1] 24)
      have qB := bwA hB (Nat.le_refl _) (.cells #[.int .i64 c.s0, .int .i64 c.s1] 24)
      clear hY1 hR hB i0 i1 i2
      go_wp2_with fail
      generalize wr.alloc (.cells #[.int .i64 c.s0, .int .i64 c.s1] 24) = V at qY qS qR qB ⊢
      generalize wr.heap.size = bS at qS ⊢
      refine region_tail 17 (by kernel_rfl) (by kernel_rfl) (fun U hU => ?_)
      replace qY := qY.drew
      replace qS := qS.drew
      replace qR := qR.drew
      replace qB := qB.drew
      rw [hU] at qY qS qR qB
      clear hU
      obtain ⟨a0, a1, a2, a3, a4, a5, a6, a7⟩ := qY.c8
      obtain ⟨s0, s1⟩ := qS.c2
      have f0 := qY.free 6
      have f1 := qY.free 7
      have zY := qY.lt
      have zS := qS.lt
      simp only [List.take_succ_cons, List.take_zero, List.drop_succ_cons, List.drop_zero]
      repeat still_step
      refine wpStill_nil ?_
      have qY2 : Blk ((U.setCell ⟨bY, 6, none⟩ (.int .i64 (max x.s0 c.s0))).setCell ⟨bY, 7, none⟩ (.int .i64 (min x.s1 c.s1))) bY #[.int .i64 (max x.b0 c.b0), .int .i64 (min x.b1 c.b1), .int .i64 (max x.w0 c.w0), .int .i64 (min x.w1 c.w1), .int .i64 (max x.q0 c.q0), .int .i64 (min x.q1 c.q1), .int .i64 (max x.s0 c.s0), .int .i64 (min x.s1 c.s1)] 99 := (qY.set 6 _).set 7 _
      have qR2 := (qR.other ⟨bY, 6, none⟩ (.int .i64 (max x.s0 c.s0)) (by simp; omega)).other ⟨bY, 7, none⟩ (.int .i64 (min x.s1 c.s1)) (by simp; omega)
      have qB2 := (qB.setCell (p := ⟨bY, 6, none⟩) (by simp; omega) (.int .i64 (max x.s0 c.s0))).setCell (p := ⟨bY, 7, none⟩) (by simp; omega) (.int .i64 (min x.s1 c.s1))
      go_wp2_with fail
      clear a0 a1 a2 a3 a4 a5 a6 a7 s0 s1 f0 f1 qY qS qR qB zY zS
      generalize ((U.setCell ⟨bY, 6, none⟩ (.int .i64 (max x.s0 c.s0))).setCell ⟨bY, 7, none⟩ (.int .i64 (min x.s1 c.s1))) = U2 at qY2 qR2 qB2 ⊢
      refine region_still (by kernel_rfl) (by kernel_rfl) (fun U3 hU => ?_)
      replace qY2 := qY2.drew
      replace qR2 := qR2.drew
      replace qB2 := qB2.drew
      rw [hU] at qY2 qR2 qB2
      clear hU
      obtain ⟨a0, a1, a2, a3, a4, a5, a6, a7⟩ := qY2.c8
      have zY := qY2.lt
      repeat still_step
      refine wpStill_nil ?_
      clear a0 a1 a2 a3 a4 a5 a6 a7 zY
      by_cases hcl : (min x.s1 c.s1) < (max x.s0 c.s0)
      · have HP := Lib.hid (co_clash HE.out (.inr (.inr (.inr (hcl)))))
        obtain ⟨r0, r1, r2, r3, r4, r5, r6, r7⟩ := qR2.c8
        have f0 := qR2.free 0
        have f1 := qR2.free 1
        have f2 := qR2.free 2
        have f3 := qR2.free 3
        have f4 := qR2.free 4
        have f5 := qR2.free 5
        have f6 := qR2.free 6
        have f7 := qR2.free 7
        have zR := qR2.lt
        have HQ := Lib.hid (qR2.set8 (.int .i64 0) (.int .i64 0) (.int .i64 0) (.int .i64 0) (.int .i64 0) (.int .i64 0) (.int .i64 0) (.int .i64 0)).c8
        clear qY2 qR2
        go_wp2
        obtain ⟨z0, z1, z2, z3, z4, z5, z6, z7⟩ := HQ.out
        refine bodyPost_ret (v := .tuple #[.agg #[.int .i64 0, .int .i64 0, .int .i64 0, .int .i64 0, .int .i64 0, .int .i64 0, .int .i64 0, .int .i64 0], .int .i64 12]) (by simp [results, Try.results27, go_sem, z0, z1, z2, z3, z4, z5, z6, z7]) rfl ⟨by rw [HP.out.1, HP.out.2], ?_⟩
        iterate 8 refine Below.setCell ?_ (by simp; omega) _
        exact qB2
      · go_wp2
        go_roundw
        case rel => exact ⟨4, by omega, by go_num, fun h => (by omega), fun h => (by omega), fun h => (by omega), fun h => (by omega), fun _ => qY2, qR2, qB2, ⟨fun _ => hN.out.1 (by omega), fun _ => hN.out.2.1 (by omega), fun _ => hN.out.2.2.1 (by omega), fun _ => by omega⟩⟩
        case measure => simp [intOf]
    · have hY1 := g4 rfl
      clear g0 g1 g2 g3 g4
      have HP := Lib.hid (co_ok HE.out (fun h => h.elim (Int.not_lt.2 (hN.out.1 (by omega))) (fun h => h.elim (Int.not_lt.2 (hN.out.2.1 (by omega))) (fun h => h.elim (Int.not_lt.2 (hN.out.2.2.1 (by omega))) (Int.not_lt.2 (hN.out.2.2.2 (by omega)))))))
      obtain ⟨a0, a1, a2, a3, a4, a5, a6, a7⟩ := hY1.c8
      have zY := hY1.lt
      go_wp2_with fail
      refine (boxice_any _ _ _ _ _ _ _ _ _).mono ?_
      rintro e w3 ⟨rfl, hb⟩
      replace hR := hR.call hb
      replace hB := bwS hB (Nat.le_refl _) hb
      clear hb hY1 a0 a1 a2 a3 a4 a5 a6 a7 zY
      obtain ⟨r0, r1, r2, r3, r4, r5, r6, r7⟩ := hR.c8
      have f0 := hR.free 0
      have f1 := hR.free 1
      have f2 := hR.free 2
      have f3 := hR.free 3
      have f4 := hR.free 4
      have f5 := hR.free 5
      have f6 := hR.free 6
      have f7 := hR.free 7
      have zR := hR.lt
      have HQ := Lib.hid (hR.set8 (.int .i64 (max x.b0 c.b0)) (.int .i64 (min x.b1 c.b1)) (.int .i64 (max x.w0 c.w0)) (.int .i64 (min x.w1 c.w1)) (.int .i64 (max x.q0 c.q0)) (.int .i64 (min x.q1 c.q1)) (.int .i64 (max x.s0 c.s0)) (.int .i64 (min x.s1 c.s1))).c8
      clear hR
      go_wp2
      obtain ⟨z0, z1, z2, z3, z4, z5, z6, z7⟩ := HQ.out
      refine bodyPost_ret (v := .tuple #[.agg #[.int .i64 (max x.b0 c.b0), .int .i64 (min x.b1 c.b1), .int .i64 (max x.w0 c.w0), .int .i64 (min x.w1 c.w1), .int .i64 (max x.q0 c.q0), .int .i64 (min x.q1 c.q1), .int .i64 (max x.s0 c.s0), .int .i64 (min x.s1 c.s1)], .int .i64 0]) (by simp [results, Try.results27, go_sem, z0, z1, z2, z3, z4, z5, z6, z7]) rfl ⟨by rw [HP.out.1, HP.out.2], ?_⟩
      iterate 8 refine Below.setCell ?_ (by simp; omega) _
      exact hB
end Go.Proofs.Ytkldjaofgdklbaa

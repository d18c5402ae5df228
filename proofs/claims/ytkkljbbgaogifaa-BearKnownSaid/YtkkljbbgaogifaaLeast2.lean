/-
  bear.Bears, Need and Stands, whatever comes in.
-/
import Derived.Test.YtkkljbbgaogifaaTail
import Derived.Test.YtkkljbbgaogifaaLeast
import Derived.Test.YtkkljbbgaogifaaInv
set_option linter.unusedVariables false
set_option linter.unusedSimpArgs false
namespace Go.Proofs.Ytkkljbbgaogifaa
open Go.RowKit

def e3 (p : Pl) (a b : Int) : Int := orE (ePl p) (orE a b)

set_option maxRecDepth 100000 in
set_option maxHeartbeats 4000000 in
theorem bears_err (p : Pl) (vS vC : Value) (th st : Int) (w : World) (hS : TabAt w vS p.S) (hC : TabAt w vC p.C) (h0 : e3 p (eN th 0 5000) (eN st 0 10000) ≠ 0) :
    Calls Try.prog 25 #[.agg #[.int .i64 p.s0, .int .i64 p.s1, vS, vC, .int .i64 p.ne, .int .i64 p.ed, .int .i64 p.gr, .int .i64 p.lo, .int .i64 p.hi, .int .i64 p.sh, .int .i64 p.wi], .int .i64 th, .int .i64 st] w fun e w' => e = .returned (.tuple #[.int .i64 0, .int .i64 (e3 p (eN th 0 5000) (eN st 0 10000))]) ∧ Below w.heap.size w w' := by
  obtain ⟨aS, cS, rfl, _, _, _⟩ := id hS
  obtain ⟨aC, cC, rfl, _, _, _⟩ := id hC
  have HC : Hid (∀ W, Below w.heap.size w W → Calls Try.prog 30 #[.agg #[.int .i64 p.s0, .int .i64 p.s1, (.slice aS p.S.n cS), (.slice aC p.C.n cC), .int .i64 p.ne, .int .i64 p.ed, .int .i64 p.gr, .int .i64 p.lo, .int .i64 p.hi, .int .i64 p.sh, .int .i64 p.wi]] W fun e w' => e = .returned (.int .i64 (ePl p)) ∧ Below W.heap.size W w') := fun W hW => check_any p _ _ W (PairsAt.later hS hW) (PairsAt.later hC hW)
  obtain ⟨r, hr⟩ : ∃ r, e3 p (eN th 0 5000) (eN st 0 10000) = r := ⟨_, rfl⟩
  rw [hr] at h0 ⊢
  unfold e3 at hr
  obtain ⟨x2, hx2⟩ : ∃ x, eN th 0 5000 = x := ⟨_, rfl⟩
  obtain ⟨x3, hx3⟩ : ∃ x, eN st 0 10000 = x := ⟨_, rfl⟩
  rw [hx2, hx3] at hr
  generalize ePl p = x1 at HC hr
  have HX2 := Lib.hid hx2
  have HX3 := Lib.hid hx3
  have HE := Lib.hid hr
  have e4 : (r != 0) = true := by simpa using h0
  have HE2 := Lib.hid h0
  clear hS hC hx2 hx3 hr h0
  have jB : Below w.heap.size w (w.alloc (.cells #[.int .i64 p.s0, .int .i64 p.s1, (.slice aS p.S.n cS), (.slice aC p.C.n cC), .int .i64 p.ne, .int .i64 p.ed, .int .i64 p.gr, .int .i64 p.lo, .int .i64 p.hi, .int .i64 p.sh, .int .i64 p.wi] 26)) := by (repeat (first | exact Below.refl _ _ | assumption | refine Below.drew ?_ | refine Below.drewN ?_ _ | refine blT ?_ | refine blU ?_))
  go_enter Try.func25, Try.ntmps25
  go_wp2_with fail
  refine (HC.out _ jB).mono ?_
  rintro e w1 ⟨rfl, hb⟩
  replace jB := bwS jB (Nat.le_refl _) hb
  clear hb
  go_wp2_with fail
  refine (thickc_any _ _).mono ?_
  rw [HX2.out]
  rintro e w2 ⟨rfl, rfl⟩
  go_wp2_with fail
  refine (stand_any _ _).mono ?_
  rw [HX3.out]
  rintro e w3 ⟨rfl, rfl⟩
  go_wp2_with fail
  refine (first_three _ _ x1 x2 x3 _ (by simp) (by simp) (by simp)).mono ?_
  rw [HE.out]
  rintro e w4 ⟨rfl, rfl⟩
  replace jB := bwA jB (Nat.le_refl _) (.cells #[.int .i64 x1, .int .i64 x2, .int .i64 x3] 36)
  generalize w1.alloc (.cells #[.int .i64 x1, .int .i64 x2, .int .i64 x3] 36) = V at jB ⊢
  go_wp2
  exact bodyPost_ret (v := .tuple #[.int .i64 0, .int .i64 r]) (by simp [results, Try.results25, go_sem]) rfl ⟨rfl, jB⟩

set_option maxRecDepth 100000 in
set_option maxHeartbeats 4000000 in
theorem need_err (p : Pl) (vS vC : Value) (wt mi : Int) (w : World) (hS : TabAt w vS p.S) (hC : TabAt w vC p.C) (h0 : e3 p (eN wt 0 200000) (eN mi 0 10000) ≠ 0) :
    Calls Try.prog 26 #[.agg #[.int .i64 p.s0, .int .i64 p.s1, vS, vC, .int .i64 p.ne, .int .i64 p.ed, .int .i64 p.gr, .int .i64 p.lo, .int .i64 p.hi, .int .i64 p.sh, .int .i64 p.wi], .int .i64 wt, .int .i64 mi] w fun e w' => e = .returned (.tuple #[.int .i64 0, .int .i64 (e3 p (eN wt 0 200000) (eN mi 0 10000))]) ∧ Below w.heap.size w w' := by
  obtain ⟨aS, cS, rfl, _, _, _⟩ := id hS
  obtain ⟨aC, cC, rfl, _, _, _⟩ := id hC
  have HC : Hid (∀ W, Below w.heap.size w W → Calls Try.prog 30 #[.agg #[.int .i64 p.s0, .int .i64 p.s1, (.slice aS p.S.n cS), (.slice aC p.C.n cC), .int .i64 p.ne, .int .i64 p.ed, .int .i64 p.gr, .int .i64 p.lo, .int .i64 p.hi, .int .i64 p.sh, .int .i64 p.wi]] W fun e w' => e = .returned (.int .i64 (ePl p)) ∧ Below W.heap.size W w') := fun W hW => check_any p _ _ W (PairsAt.later hS hW) (PairsAt.later hC hW)
  obtain ⟨r, hr⟩ : ∃ r, e3 p (eN wt 0 200000) (eN mi 0 10000) = r := ⟨_, rfl⟩
  rw [hr] at h0 ⊢
  unfold e3 at hr
  obtain ⟨x2, hx2⟩ : ∃ x, eN wt 0 200000 = x := ⟨_, rfl⟩
  obtain ⟨x3, hx3⟩ : ∃ x, eN mi 0 10000 = x := ⟨_, rfl⟩
  rw [hx2, hx3] at hr
  generalize ePl p = x1 at HC hr
  have HX2 := Lib.hid hx2
  have HX3 := Lib.hid hx3
  have HE := Lib.hid hr
  have e4 : (r != 0) = true := by simpa using h0
  have HE2 := Lib.hid h0
  clear hS hC hx2 hx3 hr h0
  have jP := ((Blk.new w #[.int .i64 p.s0, .int .i64 p.s1, (.slice aS p.S.n cS), (.slice aC p.C.n cC), .int .i64 p.ne, .int .i64 p.ed, .int .i64 p.gr, .int .i64 p.lo, .int .i64 p.hi, .int .i64 p.sh, .int .i64 p.wi] 26).alloc (.cells #[.int .i64 wt] 3)).alloc (.cells #[.int .i64 mi] 3)
  have jA := (Blk.new1 w (.cells #[.int .i64 p.s0, .int .i64 p.s1, (.slice aS p.S.n cS), (.slice aC p.C.n cC), .int .i64 p.ne, .int .i64 p.ed, .int .i64 p.gr, .int .i64 p.lo, .int .i64 p.hi, .int .i64 p.sh, .int .i64 p.wi] 26) #[.int .i64 wt] 3).alloc (.cells #[.int .i64 mi] 3)
  have jD := Blk.new2 w (.cells #[.int .i64 p.s0, .int .i64 p.s1, (.slice aS p.S.n cS), (.slice aC p.C.n cC), .int .i64 p.ne, .int .i64 p.ed, .int .i64 p.gr, .int .i64 p.lo, .int .i64 p.hi, .int .i64 p.sh, .int .i64 p.wi] 26) (.cells #[.int .i64 wt] 3) #[.int .i64 mi] 3
  have jB : Below w.heap.size w (((w.alloc (.cells #[.int .i64 p.s0, .int .i64 p.s1, (.slice aS p.S.n cS), (.slice aC p.C.n cC), .int .i64 p.ne, .int .i64 p.ed, .int .i64 p.gr, .int .i64 p.lo, .int .i64 p.hi, .int .i64 p.sh, .int .i64 p.wi] 26)).alloc (.cells #[.int .i64 wt] 3)).alloc (.cells #[.int .i64 mi] 3)) := by (repeat (first | exact Below.refl _ _ | assumption | refine Below.drew ?_ | refine Below.drewN ?_ _ | refine blT ?_ | refine blU ?_))
  go_enter Try.func26, Try.ntmps26
  go_wp2_with fail
  refine wp_region_held_drew (S := (fun w' => Blk w' w.heap.size #[.int .i64 p.s0, .int .i64 p.s1, (.slice aS p.S.n cS), (.slice aC p.C.n cC), .int .i64 p.ne, .int .i64 p.ed, .int .i64 p.gr, .int .i64 p.lo, .int .i64 p.hi, .int .i64 p.sh, .int .i64 p.wi] 26 ∧ Blk w' (w.heap.size + 1) #[.int .i64 wt] 3 ∧ Blk w' (w.heap.size + 1 + 1) #[.int .i64 mi] 3 ∧ Below w.heap.size w w')) (by kernel_rfl) ?_ (fun hH => ?_)
  · (try dsimp only); (exact ⟨jP.drew, jA.drew, jD.drew, jB.drew⟩)
  refine tkY 0 (some 10) ?_ ?_ ?_
  rotate_left
  · intro w hS0; (try dsimp only at hS0); obtain ⟨kp, kv, kw, _⟩ := hS0; obtain ⟨c0, c1, c2, c3, c4, c5, c6, c7, c8, c9, c10⟩ := kp.c11; have v0 := kv.cell1; have w0 := kw.cell1; have y1 := kp.lt; have y2 := kv.lt; have y3 := kw.lt;go_simp; (try with_reducible rfl)
  (try simp only [cq])
  refine tkY 2 (some 12) ?_ ?_ ?_
  rotate_left
  · intro w hS0; (try dsimp only at hS0); obtain ⟨kp, kv, kw, _⟩ := hS0; obtain ⟨c0, c1, c2, c3, c4, c5, c6, c7, c8, c9, c10⟩ := kp.c11; have v0 := kv.cell1; have w0 := kw.cell1; have y1 := kp.lt; have y2 := kv.lt; have y3 := kw.lt;go_simp; (try with_reducible rfl)
  (try simp only [cq])
  refine tkY 4 (some 14) ?_ ?_ ?_
  rotate_left
  · intro w hS0; (try dsimp only at hS0); obtain ⟨kp, kv, kw, _⟩ := hS0; obtain ⟨c0, c1, c2, c3, c4, c5, c6, c7, c8, c9, c10⟩ := kp.c11; have v0 := kv.cell1; have w0 := kw.cell1; have y1 := kp.lt; have y2 := kv.lt; have y3 := kw.lt;go_simp; (try with_reducible rfl)
  (try simp only [cq])
  refine wpAnyH_ready (rs := [1]) (by kernel_rfl) (by simp) ?_
  refine arc1 (some 11) fun K hK => ?_
  go_simp
  (refine (HC.out _ hH.2.2.2).mono ?_; rintro e w' ⟨rfl, hb⟩)
  refine hK.out _ _ ?_ ?_
  · (exact ⟨hH.1.call hb, hH.2.1.call hb, hH.2.2.1.call hb, bwS hH.2.2.2 (Nat.le_refl _) hb⟩)
  (try clear hH); (try clear hb)
  intro hH
  clear hK K
  (try simp only [cq])
  refine wpAnyH_ready (rs := [3]) (by kernel_rfl) (by simp) ?_
  refine arc1 (some 13) fun K hK => ?_
  go_simp
  (refine (number_any _ _ _ _).mono ?_; rw [HX2.out]; rintro e w' ⟨rfl, rfl⟩)
  refine hK.out _ _ ?_ ?_
  · exact hH
  (try clear hH); (try clear hb)
  intro hH
  clear hK K
  (try simp only [cq])
  refine wpAnyH_ready (rs := [5]) (by kernel_rfl) (by simp) ?_
  refine arc1 (some 15) fun K hK => ?_
  go_simp
  (refine (stand_any _ _).mono ?_; rw [HX3.out]; rintro e w' ⟨rfl, rfl⟩)
  refine hK.out _ _ ?_ ?_
  · exact hH
  (try clear hH); (try clear hb)
  intro hH
  clear hK K
  (try simp only [cq])
  refine wpAnyH_ready (rs := [6]) (by kernel_rfl) (by simp) ?_
  refine arc1 (some 16) fun K hK => ?_
  go_simp
  refine hK.out _ _ ?_ ?_
  · exact ⟨hH.1.alloc _, hH.2.1.alloc _, hH.2.2.1.alloc _, bwA hH.2.2.2 (Nat.le_refl _) _⟩
  (try clear hH); (try clear hb)
  intro hH
  clear hK K
  (try simp only [cq])
  refine wpAnyH_ready (rs := [7]) (by kernel_rfl) (by simp) ?_
  refine arc1 (some 17) fun K hK => ?_
  go_simp
  (refine (first_three _ _ x1 x2 x3 _ (by simp) (by simp) (by simp)).mono ?_; rw [HE.out]; rintro e w' ⟨rfl, rfl⟩)
  refine hK.out _ _ ?_ ?_
  · exact hH
  (try clear hH); (try clear hb)
  intro hH
  clear hK K
  (try simp only [cq])
  refine tkY 8 (some 8) ?_ ?_ ?_
  rotate_left
  · intro w _; go_simp; (try with_reducible rfl)
  (try simp only [cq])
  refine wpAnyH_done (by kernel_rfl) ?_ _
  (try dsimp only [Act.put])
  (try simp only [cq])
  clear jP jA jD jB HC
  obtain ⟨jP, jA, jD, jB⟩ := hH
  clear jP jA jD
  go_wp2
  exact bodyPost_ret (v := .tuple #[.int .i64 0, .int .i64 r]) (by simp [results, Try.results26, go_sem]) rfl ⟨rfl, jB⟩

set_option maxRecDepth 100000 in
set_option maxHeartbeats 4000000 in
theorem stands_err (p : Pl) (vS vC : Value) (th wt : Int) (w : World) (hS : TabAt w vS p.S) (hC : TabAt w vC p.C) (h0 : e3 p (eN th 0 5000) (eN wt 0 200000) ≠ 0) :
    Calls Try.prog 28 #[.agg #[.int .i64 p.s0, .int .i64 p.s1, vS, vC, .int .i64 p.ne, .int .i64 p.ed, .int .i64 p.gr, .int .i64 p.lo, .int .i64 p.hi, .int .i64 p.sh, .int .i64 p.wi], .int .i64 th, .int .i64 wt] w fun e w' => e = .returned (.tuple #[.int .i64 0, .int .i64 (e3 p (eN th 0 5000) (eN wt 0 200000))]) ∧ Below w.heap.size w w' := by
  obtain ⟨aS, cS, rfl, _, _, _⟩ := id hS
  obtain ⟨aC, cC, rfl, _, _, _⟩ := id hC
  have HC : Hid (∀ W, Below w.heap.size w W → Calls Try.prog 30 #[.agg #[.int .i64 p.s0, .int .i64 p.s1, (.slice aS p.S.n cS), (.slice aC p.C.n cC), .int .i64 p.ne, .int .i64 p.ed, .int .i64 p.gr, .int .i64 p.lo, .int .i64 p.hi, .int .i64 p.sh, .int .i64 p.wi]] W fun e w' => e = .returned (.int .i64 (ePl p)) ∧ Below W.heap.size W w') := fun W hW => check_any p _ _ W (PairsAt.later hS hW) (PairsAt.later hC hW)
  obtain ⟨r, hr⟩ : ∃ r, e3 p (eN th 0 5000) (eN wt 0 200000) = r := ⟨_, rfl⟩
  rw [hr] at h0 ⊢
  unfold e3 at hr
  obtain ⟨x2, hx2⟩ : ∃ x, eN th 0 5000 = x := ⟨_, rfl⟩
  obtain ⟨x3, hx3⟩ : ∃ x, eN wt 0 200000 = x := ⟨_, rfl⟩
  rw [hx2, hx3] at hr
  generalize ePl p = x1 at HC hr
  have HX2 := Lib.hid hx2
  have HX3 := Lib.hid hx3
  have HE := Lib.hid hr
  have e4 : (r != 0) = true := by simpa using h0
  have HE2 := Lib.hid h0
  clear hS hC hx2 hx3 hr h0
  have jP := ((Blk.new w #[.int .i64 p.s0, .int .i64 p.s1, (.slice aS p.S.n cS), (.slice aC p.C.n cC), .int .i64 p.ne, .int .i64 p.ed, .int .i64 p.gr, .int .i64 p.lo, .int .i64 p.hi, .int .i64 p.sh, .int .i64 p.wi] 26).alloc (.cells #[.int .i64 th] 3)).alloc (.cells #[.int .i64 wt] 3)
  have jA := (Blk.new1 w (.cells #[.int .i64 p.s0, .int .i64 p.s1, (.slice aS p.S.n cS), (.slice aC p.C.n cC), .int .i64 p.ne, .int .i64 p.ed, .int .i64 p.gr, .int .i64 p.lo, .int .i64 p.hi, .int .i64 p.sh, .int .i64 p.wi] 26) #[.int .i64 th] 3).alloc (.cells #[.int .i64 wt] 3)
  have jD := Blk.new2 w (.cells #[.int .i64 p.s0, .int .i64 p.s1, (.slice aS p.S.n cS), (.slice aC p.C.n cC), .int .i64 p.ne, .int .i64 p.ed, .int .i64 p.gr, .int .i64 p.lo, .int .i64 p.hi, .int .i64 p.sh, .int .i64 p.wi] 26) (.cells #[.int .i64 th] 3) #[.int .i64 wt] 3
  have jB : Below w.heap.size w (((w.alloc (.cells #[.int .i64 p.s0, .int .i64 p.s1, (.slice aS p.S.n cS), (.slice aC p.C.n cC), .int .i64 p.ne, .int .i64 p.ed, .int .i64 p.gr, .int .i64 p.lo, .int .i64 p.hi, .int .i64 p.sh, .int .i64 p.wi] 26)).alloc (.cells #[.int .i64 th] 3)).alloc (.cells #[.int .i64 wt] 3)) := by (repeat (first | exact Below.refl _ _ | assumption | refine Below.drew ?_ | refine Below.drewN ?_ _ | refine blT ?_ | refine blU ?_))
  go_enter Try.func28, Try.ntmps28
  go_wp2_with fail
  refine wp_region_held_drew (S := (fun w' => Blk w' w.heap.size #[.int .i64 p.s0, .int .i64 p.s1, (.slice aS p.S.n cS), (.slice aC p.C.n cC), .int .i64 p.ne, .int .i64 p.ed, .int .i64 p.gr, .int .i64 p.lo, .int .i64 p.hi, .int .i64 p.sh, .int .i64 p.wi] 26 ∧ Blk w' (w.heap.size + 1) #[.int .i64 th] 3 ∧ Blk w' (w.heap.size + 1 + 1) #[.int .i64 wt] 3 ∧ Below w.heap.size w w')) (by kernel_rfl) ?_ (fun hH => ?_)
  · (try dsimp only); (exact ⟨jP.drew, jA.drew, jD.drew, jB.drew⟩)
  refine tkY 0 (some 10) ?_ ?_ ?_
  rotate_left
  · intro w hS0; (try dsimp only at hS0); obtain ⟨kp, kv, kw, _⟩ := hS0; obtain ⟨c0, c1, c2, c3, c4, c5, c6, c7, c8, c9, c10⟩ := kp.c11; have v0 := kv.cell1; have w0 := kw.cell1; have y1 := kp.lt; have y2 := kv.lt; have y3 := kw.lt;go_simp; (try with_reducible rfl)
  (try simp only [cq])
  refine tkY 2 (some 12) ?_ ?_ ?_
  rotate_left
  · intro w hS0; (try dsimp only at hS0); obtain ⟨kp, kv, kw, _⟩ := hS0; obtain ⟨c0, c1, c2, c3, c4, c5, c6, c7, c8, c9, c10⟩ := kp.c11; have v0 := kv.cell1; have w0 := kw.cell1; have y1 := kp.lt; have y2 := kv.lt; have y3 := kw.lt;go_simp; (try with_reducible rfl)
  (try simp only [cq])
  refine tkY 4 (some 14) ?_ ?_ ?_
  rotate_left
  · intro w hS0; (try dsimp only at hS0); obtain ⟨kp, kv, kw, _⟩ := hS0; obtain ⟨c0, c1, c2, c3, c4, c5, c6, c7, c8, c9, c10⟩ := kp.c11; have v0 := kv.cell1; have w0 := kw.cell1; have y1 := kp.lt; have y2 := kv.lt; have y3 := kw.lt;go_simp; (try with_reducible rfl)
  (try simp only [cq])
  refine wpAnyH_ready (rs := [1]) (by kernel_rfl) (by simp) ?_
  refine arc1 (some 11) fun K hK => ?_
  go_simp
  (refine (HC.out _ hH.2.2.2).mono ?_; rintro e w' ⟨rfl, hb⟩)
  refine hK.out _ _ ?_ ?_
  · (exact ⟨hH.1.call hb, hH.2.1.call hb, hH.2.2.1.call hb, bwS hH.2.2.2 (Nat.le_refl _) hb⟩)
  (try clear hH); (try clear hb)
  intro hH
  clear hK K
  (try simp only [cq])
  refine wpAnyH_ready (rs := [3]) (by kernel_rfl) (by simp) ?_
  refine arc1 (some 13) fun K hK => ?_
  go_simp
  (refine (thickc_any _ _).mono ?_; rw [HX2.out]; rintro e w' ⟨rfl, rfl⟩)
  refine hK.out _ _ ?_ ?_
  · exact hH
  (try clear hH); (try clear hb)
  intro hH
  clear hK K
  (try simp only [cq])
  refine wpAnyH_ready (rs := [5]) (by kernel_rfl) (by simp) ?_
  refine arc1 (some 15) fun K hK => ?_
  go_simp
  (refine (number_any _ _ _ _).mono ?_; rw [HX3.out]; rintro e w' ⟨rfl, rfl⟩)
  refine hK.out _ _ ?_ ?_
  · exact hH
  (try clear hH); (try clear hb)
  intro hH
  clear hK K
  (try simp only [cq])
  refine wpAnyH_ready (rs := [6]) (by kernel_rfl) (by simp) ?_
  refine arc1 (some 16) fun K hK => ?_
  go_simp
  refine hK.out _ _ ?_ ?_
  · exact ⟨hH.1.alloc _, hH.2.1.alloc _, hH.2.2.1.alloc _, bwA hH.2.2.2 (Nat.le_refl _) _⟩
  (try clear hH); (try clear hb)
  intro hH
  clear hK K
  (try simp only [cq])
  refine wpAnyH_ready (rs := [7]) (by kernel_rfl) (by simp) ?_
  refine arc1 (some 17) fun K hK => ?_
  go_simp
  (refine (first_three _ _ x1 x2 x3 _ (by simp) (by simp) (by simp)).mono ?_; rw [HE.out]; rintro e w' ⟨rfl, rfl⟩)
  refine hK.out _ _ ?_ ?_
  · exact hH
  (try clear hH); (try clear hb)
  intro hH
  clear hK K
  (try simp only [cq])
  refine tkY 8 (some 8) ?_ ?_ ?_
  rotate_left
  · intro w _; go_simp; (try with_reducible rfl)
  (try simp only [cq])
  refine wpAnyH_done (by kernel_rfl) ?_ _
  (try dsimp only [Act.put])
  (try simp only [cq])
  clear jP jA jD jB HC
  obtain ⟨jP, jA, jD, jB⟩ := hH
  clear jP jA jD
  go_wp2
  exact bodyPost_ret (v := .tuple #[.int .i64 0, .int .i64 r]) (by simp [results, Try.results28, go_sem]) rfl ⟨rfl, jB⟩


theorem bears_full (p : Pl) (vS vC : Value) (th st : Int) (w : World) (hS : TabAt w vS p.S) (hC : TabAt w vC p.C) :
    Calls Try.prog 25 #[.agg #[.int .i64 p.s0, .int .i64 p.s1, vS, vC, .int .i64 p.ne, .int .i64 p.ed, .int .i64 p.gr, .int .i64 p.lo, .int .i64 p.hi, .int .i64 p.sh, .int .i64 p.wi], .int .i64 th, .int .i64 st] w fun e w' => e = .returned (.tuple #[.int .i64 (if e3 p (eN th 0 5000) (eN st 0 10000) = 0 then limV p false th st / 1000000000000 else 0), .int .i64 (e3 p (eN th 0 5000) (eN st 0 10000))]) ∧ Below w.heap.size w w' := by
  by_cases h : e3 p (eN th 0 5000) (eN st 0 10000) = 0
  · obtain ⟨h1, h2⟩ := orE_inv h
    obtain ⟨h3, h4⟩ := orE_inv h2
    rw [if_pos h, h]
    exact bears_valid p (ePl_inv h1) vS vC th st (eN_inv h3) (eN_inv h4) w hS hC
  · rw [if_neg h]
    exact bears_err p vS vC th st w hS hC h
end Go.Proofs.Ytkkljbbgaogifaa

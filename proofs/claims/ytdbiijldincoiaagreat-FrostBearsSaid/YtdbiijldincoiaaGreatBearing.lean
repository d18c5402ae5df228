/-
  frost.Bearing and frost.Ready of what the kit makes.
-/
import Derived.Test.YtdbiijldincoiaaGreatTail
import Derived.Test.YtdbiijldincoiaaGreatBd
import Derived.Test.YtdbiijldincoiaaGreatKit
set_option linter.unusedVariables false
set_option linter.unusedSimpArgs false
namespace Go.Proofs.YtdbiijldincoiaaGreat
open Go.RowKit

set_option maxRecDepth 100000 in
set_option maxHeartbeats 8000000 in
theorem bearing_ok (l : Lw) (v : Value) (x : Ic) (w : World) (hl : l.Ok) (hle : eLaw l.gr l.la l.n l.D l.P0 l.P1 l.m0 l.m1 l.so l.h0 l.h1 = 0) (hv : CovAt w v l.n l.D l.P0 l.P1) (hx : x.Val) :
    Calls Tryz.prog 21 #[.agg #[.int .i64 l.gr, .int .i64 l.la, v, .int .i64 l.m0, .int .i64 l.m1, .int .i64 l.so, .int .i64 l.h0, .int .i64 l.h1], .agg #[.int .i64 x.b0, .int .i64 x.b1, .int .i64 x.w0, .int .i64 x.w1, .int .i64 x.q0, .int .i64 x.q1, .int .i64 x.s0, .int .i64 x.s1]] w
      fun e w' => e = .returned (.tuple #[.agg #[.int .i64 (bearL x.b0 x.w0 l.h0), .int .i64 (bearH x.b1 x.w1 l.h1)], .int .i64 (soundI x.q0 x.q1), .int .i64 0]) ∧ Below w.heap.size w w' := by
  have HL := Lib.hid (show ∀ W, Below w.heap.size w W → Calls Tryz.prog 43 #[.agg #[.int .i64 l.gr, .int .i64 l.la, v, .int .i64 l.m0, .int .i64 l.m1, .int .i64 l.so, .int .i64 l.h0, .int .i64 l.h1]] W fun e w' => e = .returned (.int .i64 0) ∧ Below W.heap.size W w' from fun W hW => by
    have q := law_any l.gr l.la v l.n l.D l.P0 l.P1 l.m0 l.m1 l.so l.h0 l.h1 W (hv.later hW)
    rw [hle] at q
    exact q)
  have HI := Lib.hid (show ∀ W, Calls Tryz.prog 44 #[.agg #[.int .i64 x.b0, .int .i64 x.b1, .int .i64 x.w0, .int .i64 x.w1, .int .i64 x.q0, .int .i64 x.q1, .int .i64 x.s0, .int .i64 x.s1]] W fun e w' => e = .returned (.int .i64 0) ∧ Below W.heap.size W w' from fun W => by
    have q := ice_any x.b0 x.b1 x.w0 x.w1 x.q0 x.q1 x.s0 x.s1 W
    rw [show eIce x.b0 x.b1 x.w0 x.w1 x.q0 x.q1 x.s0 x.s1 = 0 from hx.e] at q
    exact q)
  obtain ⟨va, vcap, rfl, hz1, hz2, hz3⟩ := hv
  clear hz1 hz2 hz3
  obtain ⟨xb, xw, _, _⟩ := id hx
  have HB := Lib.hid (show ∀ W, Calls Tryz.prog 45 #[.agg #[.int .i64 l.gr, .int .i64 l.la, (.slice va l.n vcap), .int .i64 l.m0, .int .i64 l.m1, .int .i64 l.so, .int .i64 l.h0, .int .i64 l.h1], .agg #[.int .i64 x.b0, .int .i64 x.b1, .int .i64 x.w0, .int .i64 x.w1, .int .i64 x.q0, .int .i64 x.q1, .int .i64 x.s0, .int .i64 x.s1]] W fun e w' => e = .returned (.agg #[.int .i64 (bearL x.b0 x.w0 l.h0), .int .i64 (bearH x.b1 x.w1 l.h1)]) ∧ Below W.heap.size W w' from fun W => by
    have a := hl.h0
    have b := hl.h1
    have c := hl.h2
    exact bears_any l.gr l.la va l.n vcap l.m0 l.m1 l.so l.h0 l.h1 x.b0 x.b1 x.w0 x.w1 x.q0 x.q1 x.s0 x.s1 W (by omega) (by omega) (by omega) (by omega) (by omega) (by omega) (by omega) (by omega) (by omega) (by omega) (by omega) (by omega))
  clear xb xw hl hle hx
  generalize bearL x.b0 x.w0 l.h0 = t0 at HB ⊢
  generalize bearH x.b1 x.w1 l.h1 = t1 at HB ⊢
  have jL := ((Blk.new w #[.int .i64 l.gr, .int .i64 l.la, .slice va l.n vcap, .int .i64 l.m0, .int .i64 l.m1, .int .i64 l.so, .int .i64 l.h0, .int .i64 l.h1] 26).alloc (.cells #[.int .i64 x.b0, .int .i64 x.b1, .int .i64 x.w0, .int .i64 x.w1, .int .i64 x.q0, .int .i64 x.q1, .int .i64 x.s0, .int .i64 x.s1] 28)).alloc (.cells #[.int .i64 0, .int .i64 0] 24)
  have jX := (Blk.new1 w (.cells #[.int .i64 l.gr, .int .i64 l.la, .slice va l.n vcap, .int .i64 l.m0, .int .i64 l.m1, .int .i64 l.so, .int .i64 l.h0, .int .i64 l.h1] 26) #[.int .i64 x.b0, .int .i64 x.b1, .int .i64 x.w0, .int .i64 x.w1, .int .i64 x.q0, .int .i64 x.q1, .int .i64 x.s0, .int .i64 x.s1] 28).alloc (.cells #[.int .i64 0, .int .i64 0] 24)
  have jT := Blk.new2 w (.cells #[.int .i64 l.gr, .int .i64 l.la, .slice va l.n vcap, .int .i64 l.m0, .int .i64 l.m1, .int .i64 l.so, .int .i64 l.h0, .int .i64 l.h1] 26) (.cells #[.int .i64 x.b0, .int .i64 x.b1, .int .i64 x.w0, .int .i64 x.w1, .int .i64 x.q0, .int .i64 x.q1, .int .i64 x.s0, .int .i64 x.s1] 28) #[.int .i64 0, .int .i64 0] 24
  have jB : Below w.heap.size w (((w.alloc (.cells #[.int .i64 l.gr, .int .i64 l.la, .slice va l.n vcap, .int .i64 l.m0, .int .i64 l.m1, .int .i64 l.so, .int .i64 l.h0, .int .i64 l.h1] 26)).alloc (.cells #[.int .i64 x.b0, .int .i64 x.b1, .int .i64 x.w0, .int .i64 x.w1, .int .i64 x.q0, .int .i64 x.q1, .int .i64 x.s0, .int .i64 x.s1] 28)).alloc (.cells #[.int .i64 0, .int .i64 0] 24)) := by (repeat (first | exact Below.refl _ _ | assumption | refine Below.drew ?_ | refine Below.drewN ?_ _ | refine blT ?_ | refine blU ?_))
  go_enter Tryz.func21, Tryz.ntmps21
  go_wp2_with fail
  refine wp_region_held_drew (S := (fun w' => Blk w' w.heap.size #[.int .i64 l.gr, .int .i64 l.la, .slice va l.n vcap, .int .i64 l.m0, .int .i64 l.m1, .int .i64 l.so, .int .i64 l.h0, .int .i64 l.h1] 26 ∧ Blk w' (w.heap.size + 1) #[.int .i64 x.b0, .int .i64 x.b1, .int .i64 x.w0, .int .i64 x.w1, .int .i64 x.q0, .int .i64 x.q1, .int .i64 x.s0, .int .i64 x.s1] 28 ∧ Two w' (w.heap.size + 1 + 1) 24 ∧ Below w.heap.size w w')) (by kernel_rfl) ?_ (fun hH => ?_)
  · (try dsimp only); (exact ⟨jL.drew, jX.drew, ⟨_, _, jT.drew⟩, jB.drew⟩)
  refine tkY 0 (some 8) ?_ ?_ ?_
  rotate_left
  · intro w hS0; (try dsimp only at hS0); obtain ⟨kl, kx, _, _⟩ := hS0; obtain ⟨l0, l1, l2, l3, l4, l5, l6, l7⟩ := kl.c8; obtain ⟨x0, x1, x2, x3, x4, x5, x6, x7⟩ := kx.c8;go_simp; (try with_reducible rfl)
  (try simp only [cq])
  refine tkY 2 (some 10) ?_ ?_ ?_
  rotate_left
  · intro w hS0; (try dsimp only at hS0); obtain ⟨kl, kx, _, _⟩ := hS0; obtain ⟨l0, l1, l2, l3, l4, l5, l6, l7⟩ := kl.c8; obtain ⟨x0, x1, x2, x3, x4, x5, x6, x7⟩ := kx.c8;go_simp; (try with_reducible rfl)
  (try simp only [cq])
  refine wpAnyH_ready (rs := [1]) (by kernel_rfl) (by simp) ?_
  refine arc1 (some 9) fun K hK => ?_
  go_simp
  (refine (HL.out _ hH.2.2.2).mono ?_; rintro e w' ⟨rfl, hb⟩)
  refine hK.out _ _ ?_ (fun hH => ?_)
  · (go_split_ands; refine ⟨?_, ?_, ?_, ?_⟩ <;> (first | assumption | (exact Two.call (by assumption) hb) | (exact Eight.call (by assumption) hb) | (exact Blk.call (by assumption) hb) | (exact Two.alloc (by assumption) _) | (exact Eight.alloc (by assumption) _) | (exact Blk.alloc (by assumption) _) | (go_simp; done) | (go_keep; done) | (refine cell_later hb ?_; first | assumption | (go_keep; done)) | (refine bwS ?_ ?_ hb; (first | assumption | ((repeat (first | exact Below.refl _ _ | assumption | refine Below.drew ?_ | refine Below.drewN ?_ _ | refine blT ?_ | refine blU ?_)); done)); (first | exact Nat.le_refl _ | (simp; done) | (simp; omega))) | ((repeat (first | exact Below.refl _ _ | assumption | refine Below.drew ?_ | refine Below.drewN ?_ _ | refine blT ?_ | refine blU ?_)); done)))
  clear hK K
  (try simp only [cq])
  refine wpAnyH_ready (rs := [3]) (by kernel_rfl) (by simp) ?_
  refine arc1 (some 11) fun K hK => ?_
  go_simp
  (refine (HI.out _).mono ?_; rintro e w' ⟨rfl, hb⟩)
  refine hK.out _ _ ?_ (fun hH => ?_)
  · (go_split_ands; refine ⟨?_, ?_, ?_, ?_⟩ <;> (first | assumption | (exact Two.call (by assumption) hb) | (exact Eight.call (by assumption) hb) | (exact Blk.call (by assumption) hb) | (exact Two.alloc (by assumption) _) | (exact Eight.alloc (by assumption) _) | (exact Blk.alloc (by assumption) _) | (go_simp; done) | (go_keep; done) | (refine cell_later hb ?_; first | assumption | (go_keep; done)) | (refine bwS ?_ ?_ hb; (first | assumption | ((repeat (first | exact Below.refl _ _ | assumption | refine Below.drew ?_ | refine Below.drewN ?_ _ | refine blT ?_ | refine blU ?_)); done)); (first | exact Nat.le_refl _ | (simp; done) | (simp; omega))) | ((repeat (first | exact Below.refl _ _ | assumption | refine Below.drew ?_ | refine Below.drewN ?_ _ | refine blT ?_ | refine blU ?_)); done)))
  clear hK K
  (try simp only [cq])
  refine wpAnyH_ready (rs := [4]) (by kernel_rfl) (by simp) ?_
  refine arc1 (some 12) fun K hK => ?_
  go_simp
  refine hK.out _ _ ?_ (fun hH => ?_)
  · (go_split_ands; refine ⟨?_, ?_, ?_, ?_⟩ <;> (first | assumption | (exact Two.call (by assumption) hb) | (exact Eight.call (by assumption) hb) | (exact Blk.call (by assumption) hb) | (exact Two.alloc (by assumption) _) | (exact Eight.alloc (by assumption) _) | (exact Blk.alloc (by assumption) _) | (go_simp; done) | (go_keep; done) | (refine cell_later hb ?_; first | assumption | (go_keep; done)) | (refine bwS ?_ ?_ hb; (first | assumption | ((repeat (first | exact Below.refl _ _ | assumption | refine Below.drew ?_ | refine Below.drewN ?_ _ | refine blT ?_ | refine blU ?_)); done)); (first | exact Nat.le_refl _ | (simp; done) | (simp; omega))) | ((repeat (first | exact Below.refl _ _ | assumption | refine Below.drew ?_ | refine Below.drewN ?_ _ | refine blT ?_ | refine blU ?_)); done)))
  clear hK K
  (try simp only [cq])
  refine wpAnyH_ready (rs := [5]) (by kernel_rfl) (by simp) ?_
  refine arc1 (some 13) fun K hK => ?_
  go_simp
  (refine (first_two _ _ 0 0 _ ?_ ?_).mono ?_; simp; simp; rintro e w' ⟨rfl, rfl⟩)
  refine hK.out _ _ ?_ (fun hH => ?_)
  · (go_split_ands; refine ⟨?_, ?_, ?_, ?_⟩ <;> (first | assumption | (exact Two.call (by assumption) hb) | (exact Eight.call (by assumption) hb) | (exact Blk.call (by assumption) hb) | (exact Two.alloc (by assumption) _) | (exact Eight.alloc (by assumption) _) | (exact Blk.alloc (by assumption) _) | (go_simp; done) | (go_keep; done) | (refine cell_later hb ?_; first | assumption | (go_keep; done)) | (refine bwS ?_ ?_ hb; (first | assumption | ((repeat (first | exact Below.refl _ _ | assumption | refine Below.drew ?_ | refine Below.drewN ?_ _ | refine blT ?_ | refine blU ?_)); done)); (first | exact Nat.le_refl _ | (simp; done) | (simp; omega))) | ((repeat (first | exact Below.refl _ _ | assumption | refine Below.drew ?_ | refine Below.drewN ?_ _ | refine blT ?_ | refine blU ?_)); done)))
  clear hK K
  (try simp only [cq])
  refine tkY 6 (some 7) ?_ ?_ ?_
  rotate_left
  · intro w _; go_simp; (try with_reducible rfl)
  (try simp only [cq])
  refine wpAnyH_done (by kernel_rfl) ?_ _
  (try dsimp only [Act.put])
  (try simp only [cq])
  clear jL jX jT jB
  obtain ⟨jL, jX, ⟨p0, p1, jT⟩, jB⟩ := hH
  go_wp2_with fail
  refine wp_region_held_drew (S := (fun w' => Blk w' w.heap.size #[.int .i64 l.gr, .int .i64 l.la, .slice va l.n vcap, .int .i64 l.m0, .int .i64 l.m1, .int .i64 l.so, .int .i64 l.h0, .int .i64 l.h1] 26 ∧ Blk w' (w.heap.size + 1) #[.int .i64 x.b0, .int .i64 x.b1, .int .i64 x.w0, .int .i64 x.w1, .int .i64 x.q0, .int .i64 x.q1, .int .i64 x.s0, .int .i64 x.s1] 28 ∧ Two w' (w.heap.size + 1 + 1) 24 ∧ Below w.heap.size w w')) (by kernel_rfl) ?_ (fun hH => ?_)
  · (try dsimp only); (exact ⟨jL.drew, jX.drew, ⟨_, _, jT.drew⟩, jB.drew⟩)
  refine tkY 0 (some 18) ?_ ?_ ?_
  rotate_left
  · intro w hS0; (try dsimp only at hS0); obtain ⟨kl, kx, _, _⟩ := hS0; obtain ⟨l0, l1, l2, l3, l4, l5, l6, l7⟩ := kl.c8; obtain ⟨x0, x1, x2, x3, x4, x5, x6, x7⟩ := kx.c8;go_simp; (try with_reducible rfl)
  (try simp only [cq])
  refine tkY 1 (some 19) ?_ ?_ ?_
  rotate_left
  · intro w hS0; (try dsimp only at hS0); obtain ⟨kl, kx, _, _⟩ := hS0; obtain ⟨l0, l1, l2, l3, l4, l5, l6, l7⟩ := kl.c8; obtain ⟨x0, x1, x2, x3, x4, x5, x6, x7⟩ := kx.c8;go_simp; (try with_reducible rfl)
  (try simp only [cq])
  refine tkY 3 (some 21) ?_ ?_ ?_
  rotate_left
  · intro w hS0; (try dsimp only at hS0); obtain ⟨kl, kx, _, _⟩ := hS0; obtain ⟨l0, l1, l2, l3, l4, l5, l6, l7⟩ := kl.c8; obtain ⟨x0, x1, x2, x3, x4, x5, x6, x7⟩ := kx.c8;go_simp; (try with_reducible rfl)
  (try simp only [cq])
  refine wpAnyH_ready (rs := [2]) (by kernel_rfl) (by simp) ?_
  refine arc1 (some 20) fun K hK => ?_
  go_simp
  (refine (HB.out _).mono ?_; rintro e w' ⟨rfl, hb⟩)
  refine hK.out _ _ ?_ ?_
  · (go_split_ands; refine ⟨?_, ?_, ?_, ?_⟩ <;> (first | assumption | (exact Two.call (by assumption) hb) | (exact Eight.call (by assumption) hb) | (exact Blk.call (by assumption) hb) | (exact Two.alloc (by assumption) _) | (exact Eight.alloc (by assumption) _) | (exact Blk.alloc (by assumption) _) | (go_simp; done) | (go_keep; done) | (refine cell_later hb ?_; first | assumption | (go_keep; done)) | (refine bwS ?_ ?_ hb; (first | assumption | ((repeat (first | exact Below.refl _ _ | assumption | refine Below.drew ?_ | refine Below.drewN ?_ _ | refine blT ?_ | refine blU ?_)); done)); (first | exact Nat.le_refl _ | (simp; done) | (simp; omega))) | ((repeat (first | exact Below.refl _ _ | assumption | refine Below.drew ?_ | refine Below.drewN ?_ _ | refine blT ?_ | refine blU ?_)); done)))
  (try clear hH); (try clear hb)
  intro hH
  clear hK K
  (try simp only [cq])
  refine wpAnyH_ready (rs := [4]) (by kernel_rfl) (by simp) ?_
  refine arc1 (some 22) fun K hK => ?_
  go_simp
  (refine (sound_any _ _ _ _ _ _ _ _ _).mono ?_; rintro e w' ⟨rfl, hb⟩)
  refine hK.out _ _ ?_ ?_
  · (go_split_ands; refine ⟨?_, ?_, ?_, ?_⟩ <;> (first | assumption | (exact Two.call (by assumption) hb) | (exact Eight.call (by assumption) hb) | (exact Blk.call (by assumption) hb) | (exact Two.alloc (by assumption) _) | (exact Eight.alloc (by assumption) _) | (exact Blk.alloc (by assumption) _) | (go_simp; done) | (go_keep; done) | (refine cell_later hb ?_; first | assumption | (go_keep; done)) | (refine bwS ?_ ?_ hb; (first | assumption | ((repeat (first | exact Below.refl _ _ | assumption | refine Below.drew ?_ | refine Below.drewN ?_ _ | refine blT ?_ | refine blU ?_)); done)); (first | exact Nat.le_refl _ | (simp; done) | (simp; omega))) | ((repeat (first | exact Below.refl _ _ | assumption | refine Below.drew ?_ | refine Below.drewN ?_ _ | refine blT ?_ | refine blU ?_)); done)))
  (try clear hH); (try clear hb)
  intro hH
  clear hK K
  (try simp only [cq])
  refine wpAnyH_ready (rs := [5]) (by kernel_rfl) (by simp) ?_
  refine arc1 none fun K hK => ?_
  obtain ⟨h1, h2, ⟨p0, p1, hT⟩, h4⟩ := hH
  obtain ⟨r0, r1⟩ := hT.c2
  have fr0 := hT.free 0
  have fr1 := hT.free 1
  have zR := hT.lt
  have HS := Lib.hid (show Blk _ _ #[.int .i64 t0, .int .i64 t1] _ from (hT.set 0 (.int .i64 t0)).set 1 (.int .i64 t1))
  go_simp
  refine hK.out _ _ ?_ ?_
  · exact ⟨h1.oth2 (by omega) _ _, h2.oth2 (by omega) _ _, ⟨_, _, HS.out⟩, below_set2 h4 (by omega) _ _⟩
  (try clear hH); (try clear hb)
  intro hH
  clear r0 r1 fr0 fr1 zR h1 h2 hT h4
  clear hK K
  (try simp only [cq])
  refine tkY 6 (some 5) ?_ ?_ ?_
  rotate_left
  · intro w _; go_simp; (try with_reducible rfl)
  (try simp only [cq])
  refine tkY 7 (some 6) ?_ ?_ ?_
  rotate_left
  · intro w _; go_simp; (try with_reducible rfl)
  (try simp only [cq])
  refine wpAnyH_done (by kernel_rfl) ?_ _
  (try dsimp only [Act.put])
  (try simp only [cq])
  have hBB : Below w.heap.size w _ := hH.2.2.2
  obtain ⟨z0, z1⟩ := HS.out.c2
  go_wp2
  exact bodyPost_ret (v := .tuple #[.agg #[.int .i64 t0, .int .i64 t1], .int .i64 (soundI x.q0 x.q1), .int .i64 0]) (by simp [results, Tryz.results21, go_sem, z0, z1]) rfl ⟨rfl, hBB⟩

theorem bearing_kit (l : Lw) (v : Value) (x : Ic) (w : World) (hl : l.Kit) (hv : CovAt w v l.n l.D l.P0 l.P1) (hx : x.Val) :
    Calls Tryz.prog 21 #[.agg #[.int .i64 l.gr, .int .i64 l.la, v, .int .i64 l.m0, .int .i64 l.m1, .int .i64 l.so, .int .i64 l.h0, .int .i64 l.h1], .agg #[.int .i64 x.b0, .int .i64 x.b1, .int .i64 x.w0, .int .i64 x.w1, .int .i64 x.q0, .int .i64 x.q1, .int .i64 x.s0, .int .i64 x.s1]] w
      fun e w' => e = .returned (.tuple #[.agg #[.int .i64 (bearL x.b0 x.w0 l.h0), .int .i64 (bearH x.b1 x.w1 l.h1)], .int .i64 (soundI x.q0 x.q1), .int .i64 0]) ∧ Below w.heap.size w w' := bearing_ok l v x w hl.ok hl.e hv hx

theorem first1_none (p1 p2 : Value) (a : Option Addr) (cap : Nat) (w : World) :
    Calls Tryz.prog 49 #[.slice a 0 cap, .func (.func 50) #[] #[p1, p2]] w fun e w' => e = .returned (.int .i64 0) ∧ w = w' := by
  go_enter Tryz.func49, Tryz.ntmps49
  go_wp2_with fail
  refine wp_loop_rounds 1 ?_
  rw [rounds_succ]
  go_wp2
  go_ret
  exact ⟨rfl, rfl⟩
theorem first2_none (p1 p2 : Value) (a : Option Addr) (cap : Nat) (w : World) :
    Calls Tryz.prog 49 #[.slice a 0 cap, .func (.func 51) #[] #[p1, p2]] w fun e w' => e = .returned (.int .i64 0) ∧ w = w' := by
  go_enter Tryz.func49, Tryz.ntmps49
  go_wp2_with fail
  refine wp_loop_rounds 1 ?_
  rw [rounds_succ]
  go_wp2
  go_ret
  exact ⟨rfl, rfl⟩

set_option maxRecDepth 100000 in
set_option maxHeartbeats 2000000 in
theorem ready_none (a : Option Addr) (cap : Nat) (gr la : Int) (va : Option Addr) (nc vcap : Nat) (m0 m1 so h0 h1 : Int) (need : Int) (x : Ic) (w : World) (n1 : 0 ≤ need) (n2 : need ≤ 5000)
    (hR : ∀ W, Below w.heap.size w W → Calls Tryz.prog 12 #[.agg #[.int .i64 gr, .int .i64 la, (.slice va nc vcap), .int .i64 m0, .int .i64 m1, .int .i64 so, .int .i64 h0, .int .i64 h1], .agg #[.int .i64 x.b0, .int .i64 x.b1, .int .i64 x.w0, .int .i64 x.w1, .int .i64 x.q0, .int .i64 x.q1, .int .i64 x.s0, .int .i64 x.s1], .slice a 0 cap] W fun e w' => ∃ ra rc, e = .returned (.tuple #[.slice ra 0 rc, .int .i64 0]) ∧ Below W.heap.size W w') :
    Calls Tryz.prog 23 #[.agg #[.int .i64 gr, .int .i64 la, (.slice va nc vcap), .int .i64 m0, .int .i64 m1, .int .i64 so, .int .i64 h0, .int .i64 h1], .agg #[.int .i64 x.b0, .int .i64 x.b1, .int .i64 x.w0, .int .i64 x.w1, .int .i64 x.q0, .int .i64 x.q1, .int .i64 x.s0, .int .i64 x.s1], .slice a 0 cap, .int .i64 need] w
      fun e w' => e = .returned (.tuple #[.int .i64 0, .int .i64 0, .int .i64 0]) ∧ Below w.heap.size w w' := by
  have HR := Lib.hid hR
  clear hR
  have HN : Hid (∀ W, Calls Tryz.prog 48 #[.int .i64 need, .int .i64 0, .int .i64 5000] W fun e w' => e = .returned (.int .i64 0) ∧ W = w') := fun W => by
    have e0 : eN need 0 5000 = 0 := by unfold eN; rw [if_neg (by omega)]
    exact (number_any need 0 5000 W).mono fun e w' ⟨he, hw⟩ => ⟨by rw [he, e0], hw⟩
  go_enter Tryz.func23, Tryz.ntmps23
  go_wp2_with fail
  refine (HR.out _ ?_).mono ?_
  · (repeat (first | exact Below.refl _ _ | assumption | refine Below.drew ?_ | refine Below.drewN ?_ _ | refine blT ?_ | refine blU ?_))
  rintro e w1 ⟨ra, rc, rfl, hb1⟩
  have jN := (Blk.new2 w (.cells #[.int .i64 gr, .int .i64 la, .slice va nc vcap, .int .i64 m0, .int .i64 m1, .int .i64 so, .int .i64 h0, .int .i64 h1] 26) (.cells #[.int .i64 x.b0, .int .i64 x.b1, .int .i64 x.w0, .int .i64 x.w1, .int .i64 x.q0, .int .i64 x.q1, .int .i64 x.s0, .int .i64 x.s1] 28) #[.int .i64 need] 3).call hb1
  have jB : Below w.heap.size w w1 := bwS (by (repeat (first | exact Below.refl _ _ | assumption | refine Below.drew ?_ | refine Below.drewN ?_ _ | refine blT ?_ | refine blU ?_))) (Nat.le_refl _) hb1
  clear hb1
  have cN := jN.cell1
  go_wp2_with fail
  refine (HN.out _).mono ?_
  rintro e w2 ⟨rfl, rfl⟩
  go_wp2_with fail
  refine (first1_none _ _ _ _ _).mono ?_
  rintro e w3 ⟨rfl, rfl⟩
  go_wp2_with fail
  refine (first2_none _ _ _ _ _).mono ?_
  rintro e w4 ⟨rfl, rfl⟩
  go_wp2
  exact bodyPost_ret (v := .tuple #[.int .i64 0, .int .i64 0, .int .i64 0]) (by simp [results, Tryz.results23, go_sem]) rfl ⟨rfl, jB⟩

theorem ready_val (l : Lw) (v : Value) (x : Ic) (vd : Value) (m : Nat) (d : Nat → Dy) (need : Int) (w : World) (hl : l.Ok) (hle : eLaw l.gr l.la l.n l.D l.P0 l.P1 l.m0 l.m1 l.so l.h0 l.h1 = 0) (hv : CovAt w v l.n l.D l.P0 l.P1) (hx : x.Val) (hd : DaysAt w vd m d) (hm : m ≤ 400) (hk : ∀ i, i < m → (d i).Ok) (hw : 0 < w.heap.size) (n1 : 0 ≤ need) (n2 : need ≤ 5000) :
    Calls Tryz.prog 23 #[.agg #[.int .i64 l.gr, .int .i64 l.la, v, .int .i64 l.m0, .int .i64 l.m1, .int .i64 l.so, .int .i64 l.h0, .int .i64 l.h1], .agg #[.int .i64 x.b0, .int .i64 x.b1, .int .i64 x.w0, .int .i64 x.w1, .int .i64 x.q0, .int .i64 x.q1, .int .i64 x.s0, .int .i64 x.s1], vd, .int .i64 need] w
      fun e w' => e = .returned (.tuple #[.int .i64 (firstI (fun i => rdyS need l.h0 (iceAt l d x (i + 1))) 0 m), .int .i64 (firstI (fun i => rdyP need l.h1 (iceAt l d x (i + 1))) 0 m), .int .i64 0]) ∧ Below w.heap.size w w' := by
  by_cases h0 : 0 < m
  · have hA : ∀ W, Below w.heap.size w W → Calls Tryz.prog 36 #[.agg #[.int .i64 l.gr, .int .i64 l.la, v, .int .i64 l.m0, .int .i64 l.m1, .int .i64 l.so, .int .i64 l.h0, .int .i64 l.h1], .agg #[.int .i64 x.b0, .int .i64 x.b1, .int .i64 x.w0, .int .i64 x.w1, .int .i64 x.q0, .int .i64 x.q1, .int .i64 x.s0, .int .i64 x.s1], vd] W fun e w' => e = .returned (.int .i64 0) ∧ Below W.heap.size W w' := fun W hW => by
      have q := all_any l.gr l.la v l.n l.D l.P0 l.P1 l.m0 l.m1 l.so l.h0 l.h1 x.b0 x.b1 x.w0 x.w1 x.q0 x.q1 x.s0 x.s1 vd m d W (hv.later hW) (hd.later hW)
      rw [hle, show eIce x.b0 x.b1 x.w0 x.w1 x.q0 x.q1 x.s0 x.s1 = 0 from hx.e, eDs_zero hm hk] at q
      exact q
    have hB : ∀ k, k ≤ m → (iceAt l d x k).Bd ((0 : Nat) + (k : Int)) := fun k h => iceAt_bd (j := 0) hl hx.bd m hk k h (by omega)
    have hS : ∀ k W, k < m → Below w.heap.size w W → Calls Tryz.prog 55 #[.agg #[.int .i64 l.gr, .int .i64 l.la, v, .int .i64 l.m0, .int .i64 l.m1, .int .i64 l.so, .int .i64 l.h0, .int .i64 l.h1], .agg #[.int .i64 (iceAt l d x k).b0, .int .i64 (iceAt l d x k).b1, .int .i64 (iceAt l d x k).w0, .int .i64 (iceAt l d x k).w1, .int .i64 (iceAt l d x k).q0, .int .i64 (iceAt l d x k).q1, .int .i64 (iceAt l d x k).s0, .int .i64 (iceAt l d x k).s1], .agg #[.int .i64 (d k).c0, .int .i64 (d k).c1, .int .i64 (d k).f0, .int .i64 (d k).f1, .int .i64 (d k).wa, .bool (d k).cl]] W
        fun e w' => e = .returned (.agg #[.int .i64 (iceAt l d x (k + 1)).b0, .int .i64 (iceAt l d x (k + 1)).b1, .int .i64 (iceAt l d x (k + 1)).w0, .int .i64 (iceAt l d x (k + 1)).w1, .int .i64 (iceAt l d x (k + 1)).q0, .int .i64 (iceAt l d x (k + 1)).q1, .int .i64 (iceAt l d x (k + 1)).s0, .int .i64 (iceAt l d x (k + 1)).s1]) ∧ Below W.heap.size W w' := fun k W h hW => by
      obtain ⟨va, cap, rfl, z1, z2, z3⟩ := hv
      exact step_any l (iceAt l d x k) (d k) va cap W (CovAt.later ⟨va, cap, rfl, z1, z2, z3⟩ hW) hl ((hB k (by omega)).in (by omega) (by omega)) (hk k h) _ rfl
    have hF : ∀ i, i < m → (iceAt l d x (i + 1)).Fit := fun i hi => by
      obtain ⟨a1, a2, a3, a4, _, _, _, _⟩ := hB (i + 1) (by omega)
      exact ⟨by omega, by omega, by omega, by omega⟩
    have q0 := hl.h0
    have q1 := hl.h1
    have q2 := hl.h2
    obtain ⟨va, cap, rfl, z1, z2, z3⟩ := hv
    obtain ⟨a, dcap, rfl, y1, y2, y3⟩ := hd
    obtain ⟨b, o, rfl, hc⟩ := y3 h0
    exact ready_ok (some ⟨b, o, none⟩) b o dcap l.gr l.la va l.n cap l.m0 l.m1 l.so l.h0 l.h1 need d (iceAt l d x) w m hm h0 (fun _ => rfl) (World.block_lt_of_cell? _ _ (hc 0 h0).1) (by omega) (by omega) (by omega) (by omega) n1 n2 hF hc hA hS
  · obtain rfl : m = 0 := by omega
    have HR0 : ∀ W, Below w.heap.size w W → Calls Tryz.prog 12 #[.agg #[.int .i64 l.gr, .int .i64 l.la, v, .int .i64 l.m0, .int .i64 l.m1, .int .i64 l.so, .int .i64 l.h0, .int .i64 l.h1], .agg #[.int .i64 x.b0, .int .i64 x.b1, .int .i64 x.w0, .int .i64 x.w1, .int .i64 x.q0, .int .i64 x.q1, .int .i64 x.s0, .int .i64 x.s1], vd] W fun e w' => ∃ r, e = .returned (.tuple #[r, .int .i64 0]) ∧ w'.ownsRow W.heap.size 28 8 r 0 (rowsC (iceAt l d x) 0) ∧ Below W.heap.size W w' := fun W hW => run_good l v x vd 0 d W hl hle (hv.later hW) hx (hd.later hW) hm hk (Nat.lt_of_lt_of_le hw hW.size)
    have hR : ∀ W, Below w.heap.size w W → Calls Tryz.prog 12 #[.agg #[.int .i64 l.gr, .int .i64 l.la, v, .int .i64 l.m0, .int .i64 l.m1, .int .i64 l.so, .int .i64 l.h0, .int .i64 l.h1], .agg #[.int .i64 x.b0, .int .i64 x.b1, .int .i64 x.w0, .int .i64 x.w1, .int .i64 x.q0, .int .i64 x.q1, .int .i64 x.s0, .int .i64 x.s1], vd] W fun e w' => ∃ ra rc, e = .returned (.tuple #[.slice ra 0 rc, .int .i64 0]) ∧ Below W.heap.size W w' := fun W hW =>
      (HR0 W hW).mono fun e w' ⟨r, he, hr, hb⟩ => by
        rcases hr.2 with ⟨h1, _⟩ | ⟨g, cap, cur, h1, _⟩
        · exact ⟨_, _, by rw [he, h1], hb⟩
        · exact ⟨_, _, by rw [he, h1], hb⟩
    obtain ⟨va, cap, rfl, z1, z2, z3⟩ := hv
    obtain ⟨a, dcap, rfl, y1, y2, y3⟩ := hd
    exact ready_none a dcap l.gr l.la va l.n cap l.m0 l.m1 l.so l.h0 l.h1 need x w n1 n2 hR
theorem ready_kit (l : Lw) (v : Value) (x : Ic) (vd : Value) (m : Nat) (d : Nat → Dy) (need : Int) (w : World) (hl : l.Kit) (hv : CovAt w v l.n l.D l.P0 l.P1) (hx : x.Val) (hd : DaysAt w vd m d) (hm : m ≤ 400) (hk : ∀ i, i < m → (d i).Ok) (hw : 0 < w.heap.size) (n1 : 0 ≤ need) (n2 : need ≤ 5000) :
    Calls Tryz.prog 23 #[.agg #[.int .i64 l.gr, .int .i64 l.la, v, .int .i64 l.m0, .int .i64 l.m1, .int .i64 l.so, .int .i64 l.h0, .int .i64 l.h1], .agg #[.int .i64 x.b0, .int .i64 x.b1, .int .i64 x.w0, .int .i64 x.w1, .int .i64 x.q0, .int .i64 x.q1, .int .i64 x.s0, .int .i64 x.s1], vd, .int .i64 need] w
      fun e w' => e = .returned (.tuple #[.int .i64 (firstI (fun i => rdyS need l.h0 (iceAt l d x (i + 1))) 0 m), .int .i64 (firstI (fun i => rdyP need l.h1 (iceAt l d x (i + 1))) 0 m), .int .i64 0]) ∧ Below w.heap.size w w' :=
  ready_val l v x vd m d need w hl.ok hl.e hv hx hd hm hk hw n1 n2
end Go.Proofs.YtdbiijldincoiaaGreat

/-
  The bearing thickness and when it is enough: both sides at any input.
-/
import Derived.Test.YtdbiijldincoiaaGreatTail
import Derived.Test.YtdbiijldincoiaaGreatRuns
import Derived.Test.YtdbiijldincoiaaGreatBearing
import Derived.Test.YtdbiijldincoiaaGreatRef2
set_option linter.unusedVariables false
set_option linter.unusedSimpArgs false
namespace Go.Proofs.YtdbiijldincoiaaGreat
open Go.RowKit

def eBear (l : Lw) (x : Ic) : Int := orE (eLaw l.gr l.la l.n l.D l.P0 l.P1 l.m0 l.m1 l.so l.h0 l.h1) x.e
def bearA (l : Lw) (x : Ic) : Int := if eBear l x = 0 then bearL x.b0 x.w0 l.h0 else 0
def bearB (l : Lw) (x : Ic) : Int := if eBear l x = 0 then bearH x.b1 x.w1 l.h1 else 0
def bearC (l : Lw) (x : Ic) : Int := if eBear l x = 0 then soundI x.q0 x.q1 else 0

set_option maxRecDepth 100000 in
set_option maxHeartbeats 4000000 in
theorem bearing_err (l : Lw) (va : Option Addr) (vcap : Nat) (x : Ic) (EL EI : Int) (w : World) (hE : orE EL EI ≠ 0)
    (hL : ∀ W, Below w.heap.size w W → Calls Tryz.prog 43 #[.agg #[.int .i64 l.gr, .int .i64 l.la, (.slice va l.n vcap), .int .i64 l.m0, .int .i64 l.m1, .int .i64 l.so, .int .i64 l.h0, .int .i64 l.h1]] W fun e w' => e = .returned (.int .i64 EL) ∧ Below W.heap.size W w')
    (hI : ∀ W, Calls Tryz.prog 44 #[.agg #[.int .i64 x.b0, .int .i64 x.b1, .int .i64 x.w0, .int .i64 x.w1, .int .i64 x.q0, .int .i64 x.q1, .int .i64 x.s0, .int .i64 x.s1]] W fun e w' => e = .returned (.int .i64 EI) ∧ Below W.heap.size W w') :
    Calls Tryz.prog 21 #[.agg #[.int .i64 l.gr, .int .i64 l.la, (.slice va l.n vcap), .int .i64 l.m0, .int .i64 l.m1, .int .i64 l.so, .int .i64 l.h0, .int .i64 l.h1], .agg #[.int .i64 x.b0, .int .i64 x.b1, .int .i64 x.w0, .int .i64 x.w1, .int .i64 x.q0, .int .i64 x.q1, .int .i64 x.s0, .int .i64 x.s1]] w fun e w' => e = .returned (.tuple #[.agg #[.int .i64 0, .int .i64 0], .int .i64 0, .int .i64 (orE EL EI)]) ∧ Below w.heap.size w w' := by
  have HL := Lib.hid hL
  have HI := Lib.hid hI
  clear hL hI
  have jL := ((Blk.new w #[.int .i64 l.gr, .int .i64 l.la, (.slice va l.n vcap), .int .i64 l.m0, .int .i64 l.m1, .int .i64 l.so, .int .i64 l.h0, .int .i64 l.h1] 26).alloc (.cells #[.int .i64 x.b0, .int .i64 x.b1, .int .i64 x.w0, .int .i64 x.w1, .int .i64 x.q0, .int .i64 x.q1, .int .i64 x.s0, .int .i64 x.s1] 28)).alloc (.cells #[.int .i64 0, .int .i64 0] 24)
  have jX := (Blk.new1 w (.cells #[.int .i64 l.gr, .int .i64 l.la, (.slice va l.n vcap), .int .i64 l.m0, .int .i64 l.m1, .int .i64 l.so, .int .i64 l.h0, .int .i64 l.h1] 26) #[.int .i64 x.b0, .int .i64 x.b1, .int .i64 x.w0, .int .i64 x.w1, .int .i64 x.q0, .int .i64 x.q1, .int .i64 x.s0, .int .i64 x.s1] 28).alloc (.cells #[.int .i64 0, .int .i64 0] 24)
  have jT := Blk.new2 w (.cells #[.int .i64 l.gr, .int .i64 l.la, (.slice va l.n vcap), .int .i64 l.m0, .int .i64 l.m1, .int .i64 l.so, .int .i64 l.h0, .int .i64 l.h1] 26) (.cells #[.int .i64 x.b0, .int .i64 x.b1, .int .i64 x.w0, .int .i64 x.w1, .int .i64 x.q0, .int .i64 x.q1, .int .i64 x.s0, .int .i64 x.s1] 28) #[.int .i64 0, .int .i64 0] 24
  have jB : Below w.heap.size w (((w.alloc (.cells #[.int .i64 l.gr, .int .i64 l.la, (.slice va l.n vcap), .int .i64 l.m0, .int .i64 l.m1, .int .i64 l.so, .int .i64 l.h0, .int .i64 l.h1] 26)).alloc (.cells #[.int .i64 x.b0, .int .i64 x.b1, .int .i64 x.w0, .int .i64 x.w1, .int .i64 x.q0, .int .i64 x.q1, .int .i64 x.s0, .int .i64 x.s1] 28)).alloc (.cells #[.int .i64 0, .int .i64 0] 24)) := by (repeat (first | exact Below.refl _ _ | assumption | refine Below.drew ?_ | refine Below.drewN ?_ _ | refine blT ?_ | refine blU ?_))
  go_enter Tryz.func21, Tryz.ntmps21
  go_wp2_with fail
  refine wp_region_held_drew (S := (fun w' => Blk w' w.heap.size #[.int .i64 l.gr, .int .i64 l.la, (.slice va l.n vcap), .int .i64 l.m0, .int .i64 l.m1, .int .i64 l.so, .int .i64 l.h0, .int .i64 l.h1] 26 ∧ Blk w' (w.heap.size + 1) #[.int .i64 x.b0, .int .i64 x.b1, .int .i64 x.w0, .int .i64 x.w1, .int .i64 x.q0, .int .i64 x.q1, .int .i64 x.s0, .int .i64 x.s1] 28 ∧ Two w' (w.heap.size + 1 + 1) 24 ∧ Below w.heap.size w w')) (by kernel_rfl) ?_ (fun hH => ?_)
  · (try dsimp only); (exact ⟨jL.drew, jX.drew, ⟨_, _, jT.drew⟩, jB.drew⟩)
  refine tkY 0 (some 8) ?_ ?_ ?_
  rotate_left
  · intro w hS0; (try dsimp only at hS0); obtain ⟨kl, kx, _, _⟩ := hS0; obtain ⟨l0, l1, l2, l3, l4, l5, l6, l7⟩ := kl.c8; obtain ⟨x0, x1, x2, x3, x4, x5, x6, x7⟩ := kx.c8;go_simp; (try with_reducible rfl)
  (try simp only [cq])
  refine tkY 2 (some 10) ?_ ?_ ?_
  rotate_left
  · intro w hS0; (try dsimp only at hS0); obtain ⟨kl, kx, _, _⟩ := hS0; obtain ⟨l0, l1, l2, l3, l4, l5, l6, l7⟩ := kl.c8; obtain ⟨x0, x1, x2, x3, x4, x5, x6, x7⟩ := kx.c8;go_simp; (try with_reducible rfl)
  (try simp only [cq])
  refine wpAnyH_ready (rs := [1]) (by kernel_rfl) (by simp) ?_
  refine arc1 (some 9) fun K hK => ?_
  go_simp
  (refine (HL.out _ hH.2.2.2).mono ?_; rintro e w' ⟨rfl, hb⟩)
  refine hK.out _ _ ?_ (fun hH => ?_)
  · (go_split_ands; refine ⟨?_, ?_, ?_, ?_⟩ <;> (first | assumption | (exact Two.call (by assumption) hb) | (exact Eight.call (by assumption) hb) | (exact Blk.call (by assumption) hb) | (exact Two.alloc (by assumption) _) | (exact Eight.alloc (by assumption) _) | (exact Blk.alloc (by assumption) _) | (go_simp; done) | (go_keep; done) | (refine cell_later hb ?_; first | assumption | (go_keep; done)) | (refine bwS ?_ ?_ hb; (first | assumption | ((repeat (first | exact Below.refl _ _ | assumption | refine Below.drew ?_ | refine Below.drewN ?_ _ | refine blT ?_ | refine blU ?_)); done)); (first | exact Nat.le_refl _ | (simp; done) | (simp; omega))) | ((repeat (first | exact Below.refl _ _ | assumption | refine Below.drew ?_ | refine Below.drewN ?_ _ | refine blT ?_ | refine blU ?_)); done)))
  clear hK K
  (try simp only [cq])
  refine wpAnyH_ready (rs := [3]) (by kernel_rfl) (by simp) ?_
  refine arc1 (some 11) fun K hK => ?_
  go_simp
  (refine (HI.out _).mono ?_; rintro e w' ⟨rfl, hb⟩)
  refine hK.out _ _ ?_ (fun hH => ?_)
  · (go_split_ands; refine ⟨?_, ?_, ?_, ?_⟩ <;> (first | assumption | (exact Two.call (by assumption) hb) | (exact Eight.call (by assumption) hb) | (exact Blk.call (by assumption) hb) | (exact Two.alloc (by assumption) _) | (exact Eight.alloc (by assumption) _) | (exact Blk.alloc (by assumption) _) | (go_simp; done) | (go_keep; done) | (refine cell_later hb ?_; first | assumption | (go_keep; done)) | (refine bwS ?_ ?_ hb; (first | assumption | ((repeat (first | exact Below.refl _ _ | assumption | refine Below.drew ?_ | refine Below.drewN ?_ _ | refine blT ?_ | refine blU ?_)); done)); (first | exact Nat.le_refl _ | (simp; done) | (simp; omega))) | ((repeat (first | exact Below.refl _ _ | assumption | refine Below.drew ?_ | refine Below.drewN ?_ _ | refine blT ?_ | refine blU ?_)); done)))
  clear hK K
  (try simp only [cq])
  refine wpAnyH_ready (rs := [4]) (by kernel_rfl) (by simp) ?_
  refine arc1 (some 12) fun K hK => ?_
  go_simp
  refine hK.out _ _ ?_ (fun hH => ?_)
  · (go_split_ands; refine ⟨?_, ?_, ?_, ?_⟩ <;> (first | assumption | (exact Two.call (by assumption) hb) | (exact Eight.call (by assumption) hb) | (exact Blk.call (by assumption) hb) | (exact Two.alloc (by assumption) _) | (exact Eight.alloc (by assumption) _) | (exact Blk.alloc (by assumption) _) | (go_simp; done) | (go_keep; done) | (refine cell_later hb ?_; first | assumption | (go_keep; done)) | (refine bwS ?_ ?_ hb; (first | assumption | ((repeat (first | exact Below.refl _ _ | assumption | refine Below.drew ?_ | refine Below.drewN ?_ _ | refine blT ?_ | refine blU ?_)); done)); (first | exact Nat.le_refl _ | (simp; done) | (simp; omega))) | ((repeat (first | exact Below.refl _ _ | assumption | refine Below.drew ?_ | refine Below.drewN ?_ _ | refine blT ?_ | refine blU ?_)); done)))
  clear hK K
  (try simp only [cq])
  refine wpAnyH_ready (rs := [5]) (by kernel_rfl) (by simp) ?_
  refine arc1 (some 13) fun K hK => ?_
  go_simp
  (refine (first_two _ _ EL EI _ ?_ ?_).mono ?_; simp; simp; rintro e w' ⟨rfl, rfl⟩)
  refine hK.out _ _ ?_ (fun hH => ?_)
  · (go_split_ands; refine ⟨?_, ?_, ?_, ?_⟩ <;> (first | assumption | (exact Two.call (by assumption) hb) | (exact Eight.call (by assumption) hb) | (exact Blk.call (by assumption) hb) | (exact Two.alloc (by assumption) _) | (exact Eight.alloc (by assumption) _) | (exact Blk.alloc (by assumption) _) | (go_simp; done) | (go_keep; done) | (refine cell_later hb ?_; first | assumption | (go_keep; done)) | (refine bwS ?_ ?_ hb; (first | assumption | ((repeat (first | exact Below.refl _ _ | assumption | refine Below.drew ?_ | refine Below.drewN ?_ _ | refine blT ?_ | refine blU ?_)); done)); (first | exact Nat.le_refl _ | (simp; done) | (simp; omega))) | ((repeat (first | exact Below.refl _ _ | assumption | refine Below.drew ?_ | refine Below.drewN ?_ _ | refine blT ?_ | refine blU ?_)); done)))
  clear hK K
  (try simp only [cq])
  refine tkY 6 (some 7) ?_ ?_ ?_
  rotate_left
  · intro w _; go_simp; (try with_reducible rfl)
  (try simp only [cq])
  refine wpAnyH_done (by kernel_rfl) ?_ _
  (try dsimp only [Act.put])
  (try simp only [cq])
  clear jL jX jT jB
  obtain ⟨jL, jX, ⟨p0, p1, jT⟩, jB⟩ := hH
  obtain ⟨E, hEE⟩ : ∃ E, orE EL EI = E := ⟨_, rfl⟩
  rw [hEE] at hE ⊢
  have hE2 : (E != 0) = true := by simpa using hE
  have HE := Lib.hid hEE
  clear hE hEE jL jX
  obtain ⟨r0, r1⟩ := jT.c2
  have fr0 := jT.free 0
  have fr1 := jT.free 1
  have zR := jT.lt
  have HS := Lib.hid (show Blk _ _ #[.int .i64 0, .int .i64 0] _ from (jT.set 0 (.int .i64 0)).set 1 (.int .i64 0)).c2
  have HW := Lib.hid (below_set2 jB (c := w.heap.size + 1 + 1) (j := 0) (k := 1) (by omega) (.int .i64 0) (.int .i64 0))
  clear jT jB
  go_wp2
  obtain ⟨z0, z1⟩ := HS.out
  exact bodyPost_ret (v := .tuple #[.agg #[.int .i64 0, .int .i64 0], .int .i64 0, .int .i64 E]) (by simp [results, Tryz.results21, go_sem, z0, z1]) rfl ⟨by rw [HE.out], HW.out⟩

theorem bearing_any (l : Lw) (v : Value) (x : Ic) (w : World) (hv : CovAt w v l.n l.D l.P0 l.P1) :
    Calls Tryz.prog 21 #[.agg #[.int .i64 l.gr, .int .i64 l.la, v, .int .i64 l.m0, .int .i64 l.m1, .int .i64 l.so, .int .i64 l.h0, .int .i64 l.h1], .agg #[.int .i64 x.b0, .int .i64 x.b1, .int .i64 x.w0, .int .i64 x.w1, .int .i64 x.q0, .int .i64 x.q1, .int .i64 x.s0, .int .i64 x.s1]] w fun e w' => e = .returned (.tuple #[.agg #[.int .i64 (bearA l x), .int .i64 (bearB l x)], .int .i64 (bearC l x), .int .i64 (eBear l x)]) ∧ Below w.heap.size w w' := by
  unfold bearA bearB bearC
  by_cases hE : eBear l x = 0
  · rw [if_pos hE, if_pos hE, if_pos hE, hE]
    obtain ⟨h1, h2⟩ := orE_zeros hE
    exact bearing_ok l v x w (law_ok_of h1).1 h1 hv (Ic.val_of_e h2)
  · rw [if_neg hE, if_neg hE, if_neg hE]
    obtain ⟨va, cap, hvv, _, _, _⟩ := id hv
    subst hvv
    exact bearing_err l va cap x _ _ w hE (fun W hW => law_any l.gr l.la _ l.n l.D l.P0 l.P1 l.m0 l.m1 l.so l.h0 l.h1 W (hv.later hW)) (fun W => ice_any x.b0 x.b1 x.w0 x.w1 x.q0 x.q1 x.s0 x.s1 W)
set_option maxRecDepth 100000 in
set_option maxHeartbeats 8000000 in
theorem rbear_any (l : Lw) (va : Option Addr) (vcap : Nat) (x : Ic) (w : World) (hl : l.Ok) (f : x.Fit) :
    Calls Tryz.prog 47 #[.agg #[.int .i64 l.gr, .int .i64 l.la, (.slice va l.n vcap), .int .i64 l.m0, .int .i64 l.m1, .int .i64 l.so, .int .i64 l.h0, .int .i64 l.h1], .agg #[.int .i64 x.b0, .int .i64 x.b1, .int .i64 x.w0, .int .i64 x.w1, .int .i64 x.q0, .int .i64 x.q1, .int .i64 x.s0, .int .i64 x.s1]] w fun e w' => e = .returned (.tuple #[.agg #[.int .i64 (bearL x.b0 x.w0 l.h0), .int .i64 (bearH x.b1 x.w1 l.h1)], .int .i64 (soundI x.q0 x.q1)]) ∧ Below w.heap.size w w' := by
  have q0 := hl.h0
  have q1 := hl.h1
  have q2 := hl.h2
  obtain ⟨⟨i1, i2⟩, ⟨i3, i4⟩, ⟨a1, a2⟩, ⟨a3, a4⟩⟩ := f
  obtain ⟨t1, t2, t3, t4, _, _⟩ := share_facts x.w0 l.h0 a1 a2 (by omega) (by omega)
  obtain ⟨t5, t6, _, _, t7, t8⟩ := share_facts x.w1 l.h1 a3 a4 (by omega) (by omega)
  have HD := Lib.hid (fun (W : World) => rdown_b x.w0 l.h0 W t1 (by omega))
  have HU := Lib.hid (fun (W : World) => rup_b x.w1 l.h1 W t5 (by omega))
  rw [show x.w0 * l.h0 / 1000000 = gotL x.w0 l.h0 from rfl] at HD
  rw [show (x.w1 * l.h1 + 999999) / 1000000 = gotH x.w1 l.h1 from rfl] at HU
  have e1 : IntKind.i64.wrap (x.b0 + gotL x.w0 l.h0) = bearL x.b0 x.w0 l.h0 := IntWalk.i64_in _ (by omega)
  have e2 : IntKind.i64.wrap (x.b1 + gotH x.w1 l.h1) = bearH x.b1 x.w1 l.h1 := IntWalk.i64_in _ (by omega)
  generalize bearL x.b0 x.w0 l.h0 = s0 at e1 ⊢
  generalize bearH x.b1 x.w1 l.h1 = s1 at e2 ⊢
  clear t1 t2 t5 t6
  have jL := ((Blk.new w #[.int .i64 l.gr, .int .i64 l.la, (.slice va l.n vcap), .int .i64 l.m0, .int .i64 l.m1, .int .i64 l.so, .int .i64 l.h0, .int .i64 l.h1] 26).alloc (.cells #[.int .i64 x.b0, .int .i64 x.b1, .int .i64 x.w0, .int .i64 x.w1, .int .i64 x.q0, .int .i64 x.q1, .int .i64 x.s0, .int .i64 x.s1] 28)).alloc (.cells #[.int .i64 0, .int .i64 0] 24)
  have jX := (Blk.new1 w (.cells #[.int .i64 l.gr, .int .i64 l.la, (.slice va l.n vcap), .int .i64 l.m0, .int .i64 l.m1, .int .i64 l.so, .int .i64 l.h0, .int .i64 l.h1] 26) #[.int .i64 x.b0, .int .i64 x.b1, .int .i64 x.w0, .int .i64 x.w1, .int .i64 x.q0, .int .i64 x.q1, .int .i64 x.s0, .int .i64 x.s1] 28).alloc (.cells #[.int .i64 0, .int .i64 0] 24)
  have jT := Blk.new2 w (.cells #[.int .i64 l.gr, .int .i64 l.la, (.slice va l.n vcap), .int .i64 l.m0, .int .i64 l.m1, .int .i64 l.so, .int .i64 l.h0, .int .i64 l.h1] 26) (.cells #[.int .i64 x.b0, .int .i64 x.b1, .int .i64 x.w0, .int .i64 x.w1, .int .i64 x.q0, .int .i64 x.q1, .int .i64 x.s0, .int .i64 x.s1] 28) #[.int .i64 0, .int .i64 0] 24
  have jB : Below w.heap.size w (((w.alloc (.cells #[.int .i64 l.gr, .int .i64 l.la, (.slice va l.n vcap), .int .i64 l.m0, .int .i64 l.m1, .int .i64 l.so, .int .i64 l.h0, .int .i64 l.h1] 26)).alloc (.cells #[.int .i64 x.b0, .int .i64 x.b1, .int .i64 x.w0, .int .i64 x.w1, .int .i64 x.q0, .int .i64 x.q1, .int .i64 x.s0, .int .i64 x.s1] 28)).alloc (.cells #[.int .i64 0, .int .i64 0] 24)) := by (repeat (first | exact Below.refl _ _ | assumption | refine Below.drew ?_ | refine Below.drewN ?_ _ | refine blT ?_ | refine blU ?_))
  go_enter Tryz.func47, Tryz.ntmps47
  go_upto_region 1 with fail
  generalize ((w.alloc (.cells #[.int .i64 l.gr, .int .i64 l.la, (.slice va l.n vcap), .int .i64 l.m0, .int .i64 l.m1, .int .i64 l.so, .int .i64 l.h0, .int .i64 l.h1] 26)).alloc (.cells #[.int .i64 x.b0, .int .i64 x.b1, .int .i64 x.w0, .int .i64 x.w1, .int .i64 x.q0, .int .i64 x.q1, .int .i64 x.s0, .int .i64 x.s1] 28)).alloc (.cells #[.int .i64 0, .int .i64 0] 24) = V at jL jX jT jB ⊢
  go_cut [6] (fun s6 wx => ∃ bA : Nat, s6 = .pointer (some ⟨bA, 0, none⟩) ∧ w.heap.size + 1 + 1 < bA ∧ Blk wx bA #[.int .i64 s0, .int .i64 s1] 24 ∧ Blk wx (w.heap.size + 1) #[.int .i64 x.b0, .int .i64 x.b1, .int .i64 x.w0, .int .i64 x.w1, .int .i64 x.q0, .int .i64 x.q1, .int .i64 x.s0, .int .i64 x.s1] 28 ∧ Two wx (w.heap.size + 1 + 1) 24 ∧ Below w.heap.size w wx)
  case first =>
    (
 let S9 : World → Prop := (fun w' => Blk w' w.heap.size #[.int .i64 l.gr, .int .i64 l.la, (.slice va l.n vcap), .int .i64 l.m0, .int .i64 l.m1, .int .i64 l.so, .int .i64 l.h0, .int .i64 l.h1] 26 ∧ Blk w' (w.heap.size + 1) #[.int .i64 x.b0, .int .i64 x.b1, .int .i64 x.w0, .int .i64 x.w1, .int .i64 x.q0, .int .i64 x.q1, .int .i64 x.s0, .int .i64 x.s1] 28 ∧ Two w' (w.heap.size + 1 + 1) 24 ∧ Below w.heap.size w w')
 refine wp_region_held_drew (S := S9) (by kernel_rfl) ?_ (fun hH => ?_)
 · (try dsimp only); (exact ⟨jL.drew, jX.drew, ⟨_, _, jT.drew⟩, jB.drew⟩)
 apply share0 (fun (bA : Nat) (W : World) => S9 W ∧ Blk W bA #[.int .i64 0, .int .i64 0] 24 ∧ (w.heap.size + 1 + 1 < bA))
 {
 intro X2
 apply share0 (fun (bA : Nat) (W : World) => S9 W ∧ Blk W bA #[.int .i64 0, .int .i64 0] 24 ∧ (w.heap.size + 1 + 1 < bA))
 {
 intro X1
 apply share0 (fun (bA : Nat) (W : World) => S9 W ∧ Blk W bA #[.int .i64 0, .int .i64 0] 24 ∧ (w.heap.size + 1 + 1 < bA))
 {
 intro X0
 refine tkY 0 (some 7) ?_ ?_ ?_
 rotate_left
 · intro w hS0; (try dsimp only at hS0); obtain ⟨kl, kx, _, _⟩ := hS0; obtain ⟨l0, l1, l2, l3, l4, l5, l6, l7⟩ := kl.c8; obtain ⟨x0, x1, x2, x3, x4, x5, x6, x7⟩ := kx.c8; have y1 := kl.lt; have y2 := kx.lt;go_simp; (try with_reducible rfl)
 (try simp only [cq])
 refine tkY 1 (some 8) ?_ ?_ ?_
 rotate_left
 · intro w hS0; (try dsimp only at hS0); obtain ⟨kl, kx, _, _⟩ := hS0; obtain ⟨l0, l1, l2, l3, l4, l5, l6, l7⟩ := kl.c8; obtain ⟨x0, x1, x2, x3, x4, x5, x6, x7⟩ := kx.c8; have y1 := kl.lt; have y2 := kx.lt;go_simp; (try with_reducible rfl)
 (try simp only [cq])
 refine tkY 2 (some 9) ?_ ?_ ?_
 rotate_left
 · intro w hS0; (try dsimp only at hS0); obtain ⟨kl, kx, _, _⟩ := hS0; obtain ⟨l0, l1, l2, l3, l4, l5, l6, l7⟩ := kl.c8; obtain ⟨x0, x1, x2, x3, x4, x5, x6, x7⟩ := kx.c8; have y1 := kl.lt; have y2 := kx.lt;go_simp; (try with_reducible rfl)
 (try simp only [cq])
 refine tkY 3 (some 10) ?_ ?_ ?_
 rotate_left
 · intro w hS0; (try dsimp only at hS0); obtain ⟨kl, kx, _, _⟩ := hS0; obtain ⟨l0, l1, l2, l3, l4, l5, l6, l7⟩ := kl.c8; obtain ⟨x0, x1, x2, x3, x4, x5, x6, x7⟩ := kx.c8; have y1 := kl.lt; have y2 := kx.lt;go_simp; (try with_reducible rfl)
 (try simp only [cq])
 refine tkY 4 (some 11) ?_ ?_ ?_
 rotate_left
 · intro w hS0; (try dsimp only at hS0); obtain ⟨kl, kx, _, _⟩ := hS0; obtain ⟨l0, l1, l2, l3, l4, l5, l6, l7⟩ := kl.c8; obtain ⟨x0, x1, x2, x3, x4, x5, x6, x7⟩ := kx.c8; have y1 := kl.lt; have y2 := kx.lt;go_simp; (try with_reducible rfl)
 (try simp only [cq])
 refine tkY 5 (some 12) ?_ ?_ ?_
 rotate_left
 · intro w hS0; (try dsimp only at hS0); obtain ⟨kl, kx, _, _⟩ := hS0; obtain ⟨l0, l1, l2, l3, l4, l5, l6, l7⟩ := kl.c8; obtain ⟨x0, x1, x2, x3, x4, x5, x6, x7⟩ := kx.c8; have y1 := kl.lt; have y2 := kx.lt;go_simp; (try with_reducible rfl)
 (try simp only [cq])
 refine tkY 6 (some 13) ?_ ?_ ?_
 rotate_left
 · intro w hS0; (try dsimp only at hS0); obtain ⟨kl, kx, _, _⟩ := hS0; obtain ⟨l0, l1, l2, l3, l4, l5, l6, l7⟩ := kl.c8; obtain ⟨x0, x1, x2, x3, x4, x5, x6, x7⟩ := kx.c8; have y1 := kl.lt; have y2 := kx.lt;go_simp; (try with_reducible rfl)
 (try simp only [cq])
 refine tkY 7 (some 14) ?_ ?_ ?_
 rotate_left
 · intro w hS0; (try dsimp only at hS0); obtain ⟨kl, kx, _, _⟩ := hS0; obtain ⟨l0, l1, l2, l3, l4, l5, l6, l7⟩ := kl.c8; obtain ⟨x0, x1, x2, x3, x4, x5, x6, x7⟩ := kx.c8; have y1 := kl.lt; have y2 := kx.lt;go_simp; (try with_reducible rfl)
 (try simp only [cq])
 refine tkY 8 (some 15) ?_ ?_ ?_
 rotate_left
 · intro w hS0; (try dsimp only at hS0); obtain ⟨kl, kx, _, _⟩ := hS0; obtain ⟨l0, l1, l2, l3, l4, l5, l6, l7⟩ := kl.c8; obtain ⟨x0, x1, x2, x3, x4, x5, x6, x7⟩ := kx.c8; have y1 := kl.lt; have y2 := kx.lt;go_simp; (try with_reducible rfl)
 (try simp only [cq])
 refine tkY 11 (some 18) ?_ ?_ ?_
 rotate_left
 · intro w hS0; (try dsimp only at hS0); obtain ⟨kl, kx, _, _⟩ := hS0; obtain ⟨l0, l1, l2, l3, l4, l5, l6, l7⟩ := kl.c8; obtain ⟨x0, x1, x2, x3, x4, x5, x6, x7⟩ := kx.c8; have y1 := kl.lt; have y2 := kx.lt;go_simp; (try with_reducible rfl)
 (try simp only [cq])
 refine tkY 12 (some 19) ?_ ?_ ?_
 rotate_left
 · intro w hS0; (try dsimp only at hS0); obtain ⟨kl, kx, _, _⟩ := hS0; obtain ⟨l0, l1, l2, l3, l4, l5, l6, l7⟩ := kl.c8; obtain ⟨x0, x1, x2, x3, x4, x5, x6, x7⟩ := kx.c8; have y1 := kl.lt; have y2 := kx.lt;go_simp; (try with_reducible rfl)
 (try simp only [cq])
 refine tkY 13 (some 20) ?_ ?_ ?_
 rotate_left
 · intro w hS0; (try dsimp only at hS0); obtain ⟨kl, kx, _, _⟩ := hS0; obtain ⟨l0, l1, l2, l3, l4, l5, l6, l7⟩ := kl.c8; obtain ⟨x0, x1, x2, x3, x4, x5, x6, x7⟩ := kx.c8; have y1 := kl.lt; have y2 := kx.lt;go_simp; (try with_reducible rfl)
 (try simp only [cq])
 refine tkY 14 (some 21) ?_ ?_ ?_
 rotate_left
 · intro w hS0; (try dsimp only at hS0); obtain ⟨kl, kx, _, _⟩ := hS0; obtain ⟨l0, l1, l2, l3, l4, l5, l6, l7⟩ := kl.c8; obtain ⟨x0, x1, x2, x3, x4, x5, x6, x7⟩ := kx.c8; have y1 := kl.lt; have y2 := kx.lt;go_simp; (try with_reducible rfl)
 (try simp only [cq])
 refine tkY 15 (some 22) ?_ ?_ ?_
 rotate_left
 · intro w hS0; (try dsimp only at hS0); obtain ⟨kl, kx, _, _⟩ := hS0; obtain ⟨l0, l1, l2, l3, l4, l5, l6, l7⟩ := kl.c8; obtain ⟨x0, x1, x2, x3, x4, x5, x6, x7⟩ := kx.c8; have y1 := kl.lt; have y2 := kx.lt;go_simp; (try with_reducible rfl)
 (try simp only [cq])
 refine tkY 16 (some 23) ?_ ?_ ?_
 rotate_left
 · intro w hS0; (try dsimp only at hS0); obtain ⟨kl, kx, _, _⟩ := hS0; obtain ⟨l0, l1, l2, l3, l4, l5, l6, l7⟩ := kl.c8; obtain ⟨x0, x1, x2, x3, x4, x5, x6, x7⟩ := kx.c8; have y1 := kl.lt; have y2 := kx.lt;go_simp; (try with_reducible rfl)
 (try simp only [cq])
 refine tkY 17 (some 24) ?_ ?_ ?_
 rotate_left
 · intro w hS0; (try dsimp only at hS0); obtain ⟨kl, kx, _, _⟩ := hS0; obtain ⟨l0, l1, l2, l3, l4, l5, l6, l7⟩ := kl.c8; obtain ⟨x0, x1, x2, x3, x4, x5, x6, x7⟩ := kx.c8; have y1 := kl.lt; have y2 := kx.lt;go_simp; (try with_reducible rfl)
 (try simp only [cq])
 refine tkY 18 (some 25) ?_ ?_ ?_
 rotate_left
 · intro w hS0; (try dsimp only at hS0); obtain ⟨kl, kx, _, _⟩ := hS0; obtain ⟨l0, l1, l2, l3, l4, l5, l6, l7⟩ := kl.c8; obtain ⟨x0, x1, x2, x3, x4, x5, x6, x7⟩ := kx.c8; have y1 := kl.lt; have y2 := kx.lt;go_simp; (try with_reducible rfl)
 (try simp only [cq])
 refine tkY 19 (some 26) ?_ ?_ ?_
 rotate_left
 · intro w hS0; (try dsimp only at hS0); obtain ⟨kl, kx, _, _⟩ := hS0; obtain ⟨l0, l1, l2, l3, l4, l5, l6, l7⟩ := kl.c8; obtain ⟨x0, x1, x2, x3, x4, x5, x6, x7⟩ := kx.c8; have y1 := kl.lt; have y2 := kx.lt;go_simp; (try with_reducible rfl)
 (try simp only [cq])
 refine wpAnyH_ready (rs := [9, 23]) (by kernel_rfl) (by simp) ?_
 refine arc (some 16) (fun K hK => ?_) ?_
 {
 go_simp
 (refine (HD.out _).mono ?_; rintro e w' ⟨rfl, hb⟩; (try replace hA := hA.call hb))
 refine hK.out _ _ ?_ ?_
 · (exact ⟨hH.1.call hb, hH.2.1.call hb, hH.2.2.1.call hb, bwS hH.2.2.2 (Nat.le_refl _) hb⟩)
 (try clear hH); (try clear hb)
 intro hH
 clear hK K
 (try simp only [cq])
 refine tkY 10 (some 17) ?_ ?_ ?_
 rotate_left
 · intro w _; go_simp; (try with_reducible rfl)
 (try simp only [cq])
 refine wpAnyH_ready (rs := [20, 23]) (by kernel_rfl) (by simp) ?_
 refine arc (some 27) (fun K hK => ?_) ?_
 {
 go_simp
 (refine (HU.out _).mono ?_; rintro e w' ⟨rfl, hb⟩; (try replace hA := hA.call hb))
 refine hK.out _ _ ?_ ?_
 · (exact ⟨hH.1.call hb, hH.2.1.call hb, hH.2.2.1.call hb, bwS hH.2.2.2 (Nat.le_refl _) hb⟩)
 (try clear hH); (try clear hb)
 intro hH
 clear hK K
 (try simp only [cq])
 refine tkY 21 (some 28) ?_ ?_ ?_
 rotate_left
 · intro w _; go_simp; (try with_reducible rfl)
 (try simp only [cq])
 refine tkY 22 (some 29) ?_ ?_ ?_
 rotate_left
 · intro w _; go_simp; (try with_reducible rfl)
 (try simp only [cq])
 refine wpAnyH_ready (rs := [23]) (by kernel_rfl) (by simp) ?_
 refine arc1 (some 6) fun K hK => ?_
 (have hN1 := hH.2.2.1.choose_spec.choose_spec.lt; (try simp only [World.drew] at hN1))
 go_simp
 first | refine oA hK ?_ (fun hH hA => ?_) | refine oD hK ?_ (fun hH hA => ?_)
 · exact ⟨hH.1.alloc _, hH.2.1.alloc _, hH.2.2.1.alloc _, bwA hH.2.2.2 (Nat.le_refl _) _⟩
 clear hK K
 (try simp only [cq])
 obtain ⟨bA, hbA⟩ : ∃ b, Blk.num hA = b := ⟨_, rfl⟩
 obtain ⟨W, hW⟩ : ∃ V, Blk.wld hA = V := ⟨_, rfl⟩
 simp only [Blk.num] at hbA
 simp only [Blk.wld] at hW
 rw [hW] at hH hA ⊢
 rw [hbA] at hA ⊢
 replace hN1 : w.heap.size + 1 + 1 < bA := (by rw [← hbA]; exact hN1)
 clear hW hbA
 exact X2  bA W ⟨hH, hA, hN1⟩
 }
 refine arc (some 6) (fun K hK => ?_) ?_
 {
 (have hN1 := hH.2.2.1.choose_spec.choose_spec.lt; (try simp only [World.drew] at hN1))
 go_simp
 first | refine oA hK ?_ (fun hH hA => ?_) | refine oD hK ?_ (fun hH hA => ?_)
 · exact ⟨hH.1.alloc _, hH.2.1.alloc _, hH.2.2.1.alloc _, bwA hH.2.2.2 (Nat.le_refl _) _⟩
 clear hK K
 (try simp only [cq])
 obtain ⟨bA, hbA⟩ : ∃ b, Blk.num hA = b := ⟨_, rfl⟩
 obtain ⟨W, hW⟩ : ∃ V, Blk.wld hA = V := ⟨_, rfl⟩
 simp only [Blk.num] at hbA
 simp only [Blk.wld] at hW
 rw [hW] at hH hA ⊢
 rw [hbA] at hA ⊢
 replace hN1 : w.heap.size + 1 + 1 < bA := (by rw [← hbA]; exact hN1)
 clear hW hbA
 exact X1  bA W ⟨hH, hA, hN1⟩
 }
 exact AllReadyH.nil
 }
 refine arc (some 6) (fun K hK => ?_) ?_
 {
 (have hN1 := hH.2.2.1.choose_spec.choose_spec.lt; (try simp only [World.drew] at hN1))
 go_simp
 first | refine oA hK ?_ (fun hH hA => ?_) | refine oD hK ?_ (fun hH hA => ?_)
 · exact ⟨hH.1.alloc _, hH.2.1.alloc _, hH.2.2.1.alloc _, bwA hH.2.2.2 (Nat.le_refl _) _⟩
 clear hK K
 (try simp only [cq])
 obtain ⟨bA, hbA⟩ : ∃ b, Blk.num hA = b := ⟨_, rfl⟩
 obtain ⟨W, hW⟩ : ∃ V, Blk.wld hA = V := ⟨_, rfl⟩
 simp only [Blk.num] at hbA
 simp only [Blk.wld] at hW
 rw [hW] at hH hA ⊢
 rw [hbA] at hA ⊢
 replace hN1 : w.heap.size + 1 + 1 < bA := (by rw [← hbA]; exact hN1)
 clear hW hbA
 exact X0  bA W ⟨hH, hA, hN1⟩
 }
 exact AllReadyH.nil
 }
 {
 intro bA W hall
 obtain ⟨hH, hA, hN1⟩ := hall
 (try dsimp only at hH)
 (try clear X2)
 refine wpAnyH_ready (rs := [9]) (by kernel_rfl) (by simp) ?_
 refine arc1 (some 16) fun K hK => ?_
 go_simp
 (refine (HD.out _).mono ?_; rintro e w' ⟨rfl, hb⟩; (try replace hA := hA.call hb))
 refine hK.out _ _ ?_ ?_
 · (exact ⟨hH.1.call hb, hH.2.1.call hb, hH.2.2.1.call hb, bwS hH.2.2.2 (Nat.le_refl _) hb⟩)
 (try clear hH); (try clear hb)
 intro hH
 clear hK K
 (try simp only [cq])
 refine tkY 10 (some 17) ?_ ?_ ?_
 rotate_left
 · intro w _; go_simp; (try with_reducible rfl)
 (try simp only [cq])
 exact X1  bA w' ⟨hH, hA, hN1⟩
 }
 }
 {
 intro bA W hall
 obtain ⟨hH, hA, hN1⟩ := hall
 (try dsimp only at hH)
 refine wpAnyH_ready (rs := [20]) (by kernel_rfl) (by simp) ?_
 refine arc1 (some 27) fun K hK => ?_
 go_simp
 (refine (HU.out _).mono ?_; rintro e w' ⟨rfl, hb⟩; (try replace hA := hA.call hb))
 refine hK.out _ _ ?_ ?_
 · (exact ⟨hH.1.call hb, hH.2.1.call hb, hH.2.2.1.call hb, bwS hH.2.2.2 (Nat.le_refl _) hb⟩)
 (try clear hH); (try clear hb)
 intro hH
 clear hK K
 (try simp only [cq])
 refine tkY 21 (some 28) ?_ ?_ ?_
 rotate_left
 · intro w _; go_simp; (try with_reducible rfl)
 (try simp only [cq])
 refine tkY 22 (some 29) ?_ ?_ ?_
 rotate_left
 · intro w _; go_simp; (try with_reducible rfl)
 (try simp only [cq])
 exact X2  bA w' ⟨hH, hA, hN1⟩
 }
 }
 {
 intro bA W hall
 obtain ⟨hH, hA, hN1⟩ := hall
 (try dsimp only at hH)
 refine wpAnyH_ready (rs := [24]) (by kernel_rfl) (by simp) ?_
 refine arc1 none fun K hK => ?_
 obtain ⟨h1, h2, h3, h4⟩ := hH
 obtain ⟨r0, r1⟩ := hA.c2
 have fr0 := hA.free 0
 have fr1 := hA.free 1
 have zR := hA.lt
 have HS := Lib.hid (show Blk _ bA #[.int .i64 s0, .int .i64 s1] _ from (hA.set 0 (.int .i64 s0)).set 1 (.int .i64 s1))
 go_simp
 refine hK.out _ _ ?_ ?_
 · exact ⟨h1.oth2 (by omega) _ _, h2.oth2 (by omega) _ _, ⟨_, _, h3.choose_spec.choose_spec.oth2 (by omega) _ _⟩, below_set2 h4 (by omega) _ _⟩
 (try clear hH); (try clear hb)
 intro hH
 clear hK K
 (try simp only [cq])
 refine wpAnyH_done (by kernel_rfl) ?_ _
 (try dsimp only [Act.put])
 (try simp only [cq])
 clear hA r0 r1 fr0 fr1 zR h1 h2 h3 h4
 go_wp2_with fail
 go_meet
 exact ⟨_, rfl, hN1, HS.out, hH.2.1, hH.2.2.1, hH.2.2.2⟩
 } )
  case rest =>
    obtain ⟨bA, rfl, zA, kA, kX, ⟨p0, p1, kT⟩, kB⟩ := hcut
    clear jL jX jT jB HD HU e1 e2 t3 t4 t7 t8
    obtain ⟨x0, x1, x2, x3, x4, x5, x6, x7⟩ := kX.c8
    obtain ⟨y0, y1⟩ := kA.c2
    obtain ⟨r0, r1⟩ := kT.c2
    have fr0 := kT.free 0
    have fr1 := kT.free 1
    have z1 := kX.lt
    have z2 := kA.lt
    have z3 := kT.lt
    have HS := Lib.hid (show Blk _ (w.heap.size + 1 + 1) #[.int .i64 s0, .int .i64 s1] _ from (kT.set 0 (.int .i64 s0)).set 1 (.int .i64 s1)).c2
    have HW := Lib.hid (below_set2 kB (c := w.heap.size + 1 + 1) (j := 0) (k := 1) (by omega) (.int .i64 s0) (.int .i64 s1))
    clear kX kA kT kB
    by_cases g1 : x.q1 = 0
    · have hb : (x.q1 == 0) = true := by simpa using g1
      have HR := Lib.hid (show soundI x.q0 x.q1 = 1 by unfold soundI; rw [if_pos g1])
      clear g1
      go_wp2
      obtain ⟨v0, v1⟩ := HS.out
      exact bodyPost_ret (v := .tuple #[.agg #[.int .i64 s0, .int .i64 s1], .int .i64 1]) (by simp [results, Tryz.results47, go_sem, v0, v1]) rfl ⟨by rw [HR.out], HW.out⟩
    · have hb : (x.q1 == 0) = false := by simpa using g1
      by_cases g0 : 0 < x.q0
      · have HR := Lib.hid (show soundI x.q0 x.q1 = 2 by unfold soundI; rw [if_neg g1, if_pos g0])
        clear g1
        go_wp2
        obtain ⟨v0, v1⟩ := HS.out
        exact bodyPost_ret (v := .tuple #[.agg #[.int .i64 s0, .int .i64 s1], .int .i64 2]) (by simp [results, Tryz.results47, go_sem, v0, v1]) rfl ⟨by rw [HR.out], HW.out⟩
      · have HR := Lib.hid (show soundI x.q0 x.q1 = 3 by unfold soundI; rw [if_neg g1, if_neg g0])
        clear g1
        go_wp2
        obtain ⟨v0, v1⟩ := HS.out
        exact bodyPost_ret (v := .tuple #[.agg #[.int .i64 s0, .int .i64 s1], .int .i64 3]) (by simp [results, Tryz.results47, go_sem, v0, v1]) rfl ⟨by rw [HR.out], HW.out⟩
theorem days_nil (w : World) (d : Nat → Dy) : DaysAt w (.slice none 0 0) 0 d := ⟨none, 0, rfl, Nat.le_refl _, by decide, fun h => absurd h (by omega)⟩
theorem orE_no (a : Int) : orE a 0 = a := by
  unfold orE
  split
  · rename_i h
    exact h.symm
  · rfl
theorem eAll_nil (l : Lw) (x : Ic) (d : Nat → Dy) : eAll l.gr l.la l.n l.D l.P0 l.P1 l.m0 l.m1 l.so l.h0 l.h1 x 0 d = eBear l x := by
  unfold eAll eBear
  rw [show eDs 0 d = 0 from rfl, orE_no]
theorem Ic.Val.fit {x : Ic} (h : x.Val) : x.Fit := by
  obtain ⟨h1, h2, h3, h4⟩ := h
  exact ⟨by omega, by omega, by omega, by omega⟩

set_option maxRecDepth 100000 in
set_option maxHeartbeats 4000000 in
theorem rBearing_any (l : Lw) (v : Value) (x : Ic) (w : World) (hv : CovAt w v l.n l.D l.P0 l.P1) :
    Calls Tryz.prog 22 #[.agg #[.int .i64 l.gr, .int .i64 l.la, v, .int .i64 l.m0, .int .i64 l.m1, .int .i64 l.so, .int .i64 l.h0, .int .i64 l.h1], .agg #[.int .i64 x.b0, .int .i64 x.b1, .int .i64 x.w0, .int .i64 x.w1, .int .i64 x.q0, .int .i64 x.q1, .int .i64 x.s0, .int .i64 x.s1]] w fun e w' => e = .returned (.tuple #[.agg #[.int .i64 (bearA l x), .int .i64 (bearB l x)], .int .i64 (bearC l x), .int .i64 (eBear l x)]) ∧ Below w.heap.size w w' := by
  have HA := Lib.hid (fun (W : World) (hW : Below w.heap.size w W) => rall_any l.gr l.la v l.n l.D l.P0 l.P1 l.m0 l.m1 l.so l.h0 l.h1 x (.slice none 0 0) 0 (fun _ => ⟨0, 0, 0, 0, 0, false⟩) W (hv.later hW) (days_nil W _))
  rw [eAll_nil] at HA
  obtain ⟨va, cap, hvv, _, _, _⟩ := id hv
  subst hvv
  clear hv
  have jL := ((Blk.new w #[.int .i64 l.gr, .int .i64 l.la, (.slice va l.n cap), .int .i64 l.m0, .int .i64 l.m1, .int .i64 l.so, .int .i64 l.h0, .int .i64 l.h1] 26).alloc (.cells #[.int .i64 x.b0, .int .i64 x.b1, .int .i64 x.w0, .int .i64 x.w1, .int .i64 x.q0, .int .i64 x.q1, .int .i64 x.s0, .int .i64 x.s1] 28)).alloc (.cells #[.int .i64 0, .int .i64 0] 24)
  have jX := (Blk.new1 w (.cells #[.int .i64 l.gr, .int .i64 l.la, (.slice va l.n cap), .int .i64 l.m0, .int .i64 l.m1, .int .i64 l.so, .int .i64 l.h0, .int .i64 l.h1] 26) #[.int .i64 x.b0, .int .i64 x.b1, .int .i64 x.w0, .int .i64 x.w1, .int .i64 x.q0, .int .i64 x.q1, .int .i64 x.s0, .int .i64 x.s1] 28).alloc (.cells #[.int .i64 0, .int .i64 0] 24)
  have jT := Blk.new2 w (.cells #[.int .i64 l.gr, .int .i64 l.la, (.slice va l.n cap), .int .i64 l.m0, .int .i64 l.m1, .int .i64 l.so, .int .i64 l.h0, .int .i64 l.h1] 26) (.cells #[.int .i64 x.b0, .int .i64 x.b1, .int .i64 x.w0, .int .i64 x.w1, .int .i64 x.q0, .int .i64 x.q1, .int .i64 x.s0, .int .i64 x.s1] 28) #[.int .i64 0, .int .i64 0] 24
  have jB : Below w.heap.size w (((w.alloc (.cells #[.int .i64 l.gr, .int .i64 l.la, (.slice va l.n cap), .int .i64 l.m0, .int .i64 l.m1, .int .i64 l.so, .int .i64 l.h0, .int .i64 l.h1] 26)).alloc (.cells #[.int .i64 x.b0, .int .i64 x.b1, .int .i64 x.w0, .int .i64 x.w1, .int .i64 x.q0, .int .i64 x.q1, .int .i64 x.s0, .int .i64 x.s1] 28)).alloc (.cells #[.int .i64 0, .int .i64 0] 24)) := by (repeat (first | exact Below.refl _ _ | assumption | refine Below.drew ?_ | refine Below.drewN ?_ _ | refine blT ?_ | refine blU ?_))
  unfold bearA bearB bearC
  by_cases hE : eBear l x = 0
  · rw [if_pos hE, if_pos hE, if_pos hE]
    obtain ⟨h1, h2⟩ := orE_zeros hE
    have HB := Lib.hid (fun (W : World) => rbear_any l va cap x W (law_ok_of h1).1 (Ic.val_of_e h2).fit)
    rw [hE] at HA ⊢
    generalize bearL x.b0 x.w0 l.h0 = s0 at HB ⊢
    generalize bearH x.b1 x.w1 l.h1 = s1 at HB ⊢
    generalize soundI x.q0 x.q1 = s2 at HB ⊢
    clear hE h1 h2
    go_enter Tryz.func22, Tryz.ntmps22
    go_wp2_with fail
    refine (HA.out _ jB).mono ?_
    rintro e w1 ⟨rfl, hb⟩
    replace jL := jL.call hb
    replace jX := jX.call hb
    replace jT := jT.call hb
    replace jB := bwS jB (Nat.le_refl _) hb
    clear hb HA
    obtain ⟨l0, l1, l2, l3, l4, l5, l6, l7⟩ := jL.c8
    obtain ⟨x0, x1, x2, x3, x4, x5, x6, x7⟩ := jX.c8
    have zL := jL.lt
    have zX := jX.lt
    go_wp2_with fail
    refine (HB.out _).mono ?_
    rintro e w2 ⟨rfl, hb⟩
    replace jT := jT.call hb
    replace jB := bwS jB (Nat.le_refl _) hb
    clear hb HB l0 l1 l2 l3 l4 l5 l6 l7 x0 x1 x2 x3 x4 x5 x6 x7 zL zX jL jX
    obtain ⟨r0, r1⟩ := jT.c2
    have fr0 := jT.free 0
    have fr1 := jT.free 1
    have zR := jT.lt
    have HS := Lib.hid ((show Blk _ (w.heap.size + 1 + 1) #[.int .i64 s0, .int .i64 s1] _ from (jT.set 0 (.int .i64 s0)).set 1 (.int .i64 s1)).alloc (.cells #[.int .i64 s0, .int .i64 s1] 24)).c2
    have HW := Lib.hid (bwA (below_set2 jB (c := w.heap.size + 1 + 1) (j := 0) (k := 1) (by omega) (.int .i64 s0) (.int .i64 s1)) (Nat.le_refl _) (.cells #[.int .i64 s0, .int .i64 s1] 24))
    clear jT jB
    go_wp2
    obtain ⟨v0, v1⟩ := HS.out
    exact bodyPost_ret (v := .tuple #[.agg #[.int .i64 s0, .int .i64 s1], .int .i64 s2, .int .i64 0]) (by simp [results, Tryz.results22, go_sem, v0, v1]) rfl ⟨rfl, HW.out⟩
  · rw [if_neg hE, if_neg hE, if_neg hE]
    obtain ⟨E, hEE⟩ : ∃ E, eBear l x = E := ⟨_, rfl⟩
    rw [hEE] at HA hE ⊢
    have hE2 : (E != 0) = true := by simpa using hE
    clear hE hEE
    go_enter Tryz.func22, Tryz.ntmps22
    go_wp2_with fail
    refine (HA.out _ jB).mono ?_
    rintro e w1 ⟨rfl, hb⟩
    replace jT := jT.call hb
    replace jB := bwS jB (Nat.le_refl _) hb
    clear hb HA jL jX
    obtain ⟨r0, r1⟩ := jT.c2
    have fr0 := jT.free 0
    have fr1 := jT.free 1
    have zR := jT.lt
    have HS := Lib.hid (show Blk _ (w.heap.size + 1 + 1) #[.int .i64 0, .int .i64 0] _ from (jT.set 0 (.int .i64 0)).set 1 (.int .i64 0)).c2
    have HW := Lib.hid (below_set2 jB (c := w.heap.size + 1 + 1) (j := 0) (k := 1) (by omega) (.int .i64 0) (.int .i64 0))
    clear jT jB
    go_wp2
    obtain ⟨v0, v1⟩ := HS.out
    exact bodyPost_ret (v := .tuple #[.agg #[.int .i64 0, .int .i64 0], .int .i64 0, .int .i64 E]) (by simp [results, Tryz.results22, go_sem, v0, v1]) rfl ⟨rfl, HW.out⟩

def eRdy (l : Lw) (x : Ic) (m : Nat) (d : Nat → Dy) (need : Int) : Int := orE (eRun l x m d) (eN need 0 5000)
def rdyA (l : Lw) (x : Ic) (m : Nat) (d : Nat → Dy) (need : Int) : Int := if eRdy l x m d need = 0 then firstI (fun i => rdyS need l.h0 (iceAt l d x (i + 1))) 0 m else 0
def rdyB (l : Lw) (x : Ic) (m : Nat) (d : Nat → Dy) (need : Int) : Int := if eRdy l x m d need = 0 then firstI (fun i => rdyP need l.h1 (iceAt l d x (i + 1))) 0 m else 0

set_option maxRecDepth 100000 in
set_option maxHeartbeats 2000000 in
theorem ready_err (l : Lw) (va : Option Addr) (vcap : Nat) (x : Ic) (vd : Value) (need E1 E2 : Int) (w : World) (hE : orE E1 E2 ≠ 0)
    (hR : ∀ W, Below w.heap.size w W → Calls Tryz.prog 12 #[.agg #[.int .i64 l.gr, .int .i64 l.la, (.slice va l.n vcap), .int .i64 l.m0, .int .i64 l.m1, .int .i64 l.so, .int .i64 l.h0, .int .i64 l.h1], .agg #[.int .i64 x.b0, .int .i64 x.b1, .int .i64 x.w0, .int .i64 x.w1, .int .i64 x.q0, .int .i64 x.q1, .int .i64 x.s0, .int .i64 x.s1], vd] W fun e w' => ∃ r, e = .returned (.tuple #[r, .int .i64 E1]) ∧ Below W.heap.size W w')
    (hN : ∀ W, Calls Tryz.prog 48 #[.int .i64 need, .int .i64 0, .int .i64 5000] W fun e w' => e = .returned (.int .i64 E2) ∧ W = w') :
    Calls Tryz.prog 23 #[.agg #[.int .i64 l.gr, .int .i64 l.la, (.slice va l.n vcap), .int .i64 l.m0, .int .i64 l.m1, .int .i64 l.so, .int .i64 l.h0, .int .i64 l.h1], .agg #[.int .i64 x.b0, .int .i64 x.b1, .int .i64 x.w0, .int .i64 x.w1, .int .i64 x.q0, .int .i64 x.q1, .int .i64 x.s0, .int .i64 x.s1], vd, .int .i64 need] w fun e w' => e = .returned (.tuple #[.int .i64 0, .int .i64 0, .int .i64 (orE E1 E2)]) ∧ Below w.heap.size w w' := by
  have HR := Lib.hid hR
  have HN := Lib.hid hN
  clear hR hN
  have jN := Blk.new2 w (.cells #[.int .i64 l.gr, .int .i64 l.la, (.slice va l.n vcap), .int .i64 l.m0, .int .i64 l.m1, .int .i64 l.so, .int .i64 l.h0, .int .i64 l.h1] 26) (.cells #[.int .i64 x.b0, .int .i64 x.b1, .int .i64 x.w0, .int .i64 x.w1, .int .i64 x.q0, .int .i64 x.q1, .int .i64 x.s0, .int .i64 x.s1] 28) #[.int .i64 need] 3
  have jB : Below w.heap.size w (((w.alloc (.cells #[.int .i64 l.gr, .int .i64 l.la, (.slice va l.n vcap), .int .i64 l.m0, .int .i64 l.m1, .int .i64 l.so, .int .i64 l.h0, .int .i64 l.h1] 26)).alloc (.cells #[.int .i64 x.b0, .int .i64 x.b1, .int .i64 x.w0, .int .i64 x.w1, .int .i64 x.q0, .int .i64 x.q1, .int .i64 x.s0, .int .i64 x.s1] 28)).alloc (.cells #[.int .i64 need] 3)) := by (repeat (first | exact Below.refl _ _ | assumption | refine Below.drew ?_ | refine Below.drewN ?_ _ | refine blT ?_ | refine blU ?_))
  by_cases h1 : E1 = 0
  · subst h1
    rw [show orE 0 E2 = E2 from rfl] at hE ⊢
    have hE2 : (E2 != 0) = true := by simpa using hE
    clear hE
    go_enter Tryz.func23, Tryz.ntmps23
    go_wp2_with fail
    refine (HR.out _ jB).mono ?_
    rintro e w1 ⟨r, rfl, hb⟩
    replace jN := jN.call hb
    replace jB := bwS jB (Nat.le_refl _) hb
    clear hb HR
    have cN := jN.cell1
    have zN := jN.lt
    go_wp2_with fail
    refine (HN.out _).mono ?_
    rintro e w2 ⟨rfl, rfl⟩
    go_wp2
    exact bodyPost_ret (v := .tuple #[.int .i64 0, .int .i64 0, .int .i64 E2]) (by simp [results, Tryz.results23, go_sem]) rfl ⟨rfl, jB⟩
  · rw [show orE E1 E2 = E1 from if_neg h1]
    have g1 : (E1 == 0) = false := by simpa using h1
    have g2 : (E1 != 0) = true := by simpa using h1
    clear h1 hE
    go_enter Tryz.func23, Tryz.ntmps23
    go_wp2_with fail
    refine (HR.out _ jB).mono ?_
    rintro e w1 ⟨r, rfl, hb⟩
    replace jB := bwS jB (Nat.le_refl _) hb
    clear hb HR
    go_wp2
    exact bodyPost_ret (v := .tuple #[.int .i64 0, .int .i64 0, .int .i64 E1]) (by simp [results, Tryz.results23, go_sem]) rfl ⟨rfl, jB⟩

theorem fReady_any (l : Lw) (v : Value) (x : Ic) (vd : Value) (m : Nat) (d : Nat → Dy) (need : Int) (w : World) (hv : CovAt w v l.n l.D l.P0 l.P1) (hd : DaysAt w vd m d) (hw : 0 < w.heap.size) :
    Calls Tryz.prog 23 #[.agg #[.int .i64 l.gr, .int .i64 l.la, v, .int .i64 l.m0, .int .i64 l.m1, .int .i64 l.so, .int .i64 l.h0, .int .i64 l.h1], .agg #[.int .i64 x.b0, .int .i64 x.b1, .int .i64 x.w0, .int .i64 x.w1, .int .i64 x.q0, .int .i64 x.q1, .int .i64 x.s0, .int .i64 x.s1], vd, .int .i64 need] w fun e w' => e = .returned (.tuple #[.int .i64 (rdyA l x m d need), .int .i64 (rdyB l x m d need), .int .i64 (eRdy l x m d need)]) ∧ Below w.heap.size w w' := by
  unfold rdyA rdyB
  by_cases hE : eRdy l x m d need = 0
  · rw [if_pos hE, if_pos hE, hE]
    obtain ⟨h1, h2⟩ := orE_zeros hE
    obtain ⟨g1, _, g3, g4, g5⟩ := eRun_ok h1
    obtain ⟨n1, n2⟩ := eN_zero_in h2
    unfold eRun eAll at h1
    exact ready_val l v x vd m d need w g1 (orE_zeros h1).1 hv g3 hd g4 g5 hw n1 n2
  · rw [if_neg hE, if_neg hE]
    obtain ⟨va, cap, hvv, _, _, _⟩ := id hv
    subst hvv
    exact ready_err l va cap x vd need (eRun l x m d) (eN need 0 5000) w hE (fun W hW => (fRun_any l _ x vd m d W (hv.later hW) (hd.later hW) (Nat.lt_of_lt_of_le hw hW.size)).mono fun e w' ⟨r, a, _, b⟩ => ⟨r, a, b⟩) (fun W => number_any need 0 5000 W)
end Go.Proofs.YtdbiijldincoiaaGreat

/-
  frost.Flood of what the kit makes.
-/
import Derived.Test.YtkldjaofgdklbaaTail
import Derived.Laws.EntriesVeiled
import Derived.Test.YtkldjaofgdklbaaFlood1
import Derived.Test.YtkldjaofgdklbaaSearch
set_option linter.unusedVariables false
set_option linter.unusedSimpArgs false
namespace Go.Proofs.Ytkldjaofgdklbaa
open Go.RowKit

theorem blk_num_le {V : World} {b : Nat} (h : V.heap.size ≤ b) {c : Nat} (e : b = c) : V.heap.size ≤ c := e ▸ h

set_option maxRecDepth 100000 in
set_option maxHeartbeats 4000000 in
theorem notdries_in (i : Int) (fv : Array Value) (bF : Nat) (I : World → Prop) (r : Bool) (W : World) (hi : 0 ≤ i) (hi2 : i ≤ 1000) (hb : Blk W bF #[.func (.func 89) #[] fv] 53)
    (hf : Calls Try.prog 89 (#[.int .i64 (i + 1)] ++ fv) W fun e w' => e = .returned (.bool r) ∧ I w') :
    Calls Try.prog 91 #[.int .i64 i, .pointer (some ⟨bF, 0, none⟩)] W fun e w' => e = .returned (.bool (!r)) ∧ I w' := by
  have e1 : IntKind.i64.wrap (i + 1) = i + 1 := IntWalk.i64_in _ (by omega)
  have HF := Lib.hid hf
  clear hf
  have b0 := hb.cell1
  go_enter Try.func91, Try.ntmps91
  go_wp2_with fail
  refine HF.out.mono ?_
  rintro e w2 ⟨rfl, hI⟩
  go_wp2
  go_ret
  exact ⟨rfl, hI⟩

set_option maxRecDepth 100000 in
set_option maxHeartbeats 16000000 in
theorem flood_kit (l : Lw) (v : Value) (x : Ic) (vd : Value) (n : Nat) (d : Nat → Dy) (j most : Nat) (w : World) (hl : l.Kit) (hv : CovAt w v l.n l.D l.P0 l.P1) (hx : x.Val) (hd : DaysAt w vd n d) (hn : n ≤ 400) (hk : ∀ i, i < n → (d i).Ok) (hj : j < n) (hm : most ≤ 200) :
    Calls Try.prog 50 #[.agg #[.int .i64 l.gr, .int .i64 l.la, v, .int .i64 l.m0, .int .i64 l.m1, .int .i64 l.so, .int .i64 l.h0, .int .i64 l.h1], .agg #[.int .i64 x.b0, .int .i64 x.b1, .int .i64 x.w0, .int .i64 x.w1, .int .i64 x.q0, .int .i64 x.q1, .int .i64 x.s0, .int .i64 x.s1], vd, .int .i64 ((j : Int) + 1), .int .i64 (most : Int)] w
      fun e w' => ∃ k : Int, e = .returned (.tuple #[.int .i64 k, .int .i64 0]) ∧ ((k = -1 ∧ ((iceAt l (wet d j 0) x n).q1 == 0) = false) ∨ ∃ q : Nat, k = q ∧ q ≤ most ∧ ((iceAt l (wet d j q) x n).q1 == 0) = true ∧ (q < most → ((iceAt l (wet d j ((q : Int) + 1)) x n).q1 == 0) = false)) ∧ Below w.heap.size w w' := by
  have hA : ∀ W, Below w.heap.size w W → Calls Try.prog 58 #[.agg #[.int .i64 l.gr, .int .i64 l.la, v, .int .i64 l.m0, .int .i64 l.m1, .int .i64 l.so, .int .i64 l.h0, .int .i64 l.h1], .agg #[.int .i64 x.b0, .int .i64 x.b1, .int .i64 x.w0, .int .i64 x.w1, .int .i64 x.q0, .int .i64 x.q1, .int .i64 x.s0, .int .i64 x.s1], vd] W fun e w' => e = .returned (.int .i64 0) ∧ Below W.heap.size W w' := fun W hW => by
    have q := all_any l.gr l.la v l.n l.D l.P0 l.P1 l.m0 l.m1 l.so l.h0 l.h1 x.b0 x.b1 x.w0 x.w1 x.q0 x.q1 x.s0 x.s1 vd n d W (hv.later hW) (hd.later hW)
    rw [hl.e, show eIce x.b0 x.b1 x.w0 x.w1 x.q0 x.q1 x.s0 x.s1 = 0 from hx.e, eDs_zero hn hk] at q
    exact q
  obtain ⟨va, vcap, hvv, _, _, _⟩ := id hv
  subst hvv
  obtain ⟨da, dcap, hvd, ncap, _, hc⟩ := id hd
  subst hvd
  obtain ⟨b, o, rfl, hc2⟩ := hc (by omega)
  have hcj := hc2 j hj
  have zb := World.block_lt_of_cell? _ _ hcj.1
  have hIn := fun k (hk1 : k ≤ j) => (iceAt_bd (j := 0) hl.ok hx.bd n hk k (by omega) (by omega)).in (by omega) (by omega)
  have HA := Lib.hid hA
  clear hA hc hc2
  have HN1 : Hid (∀ W, Calls Try.prog 63 #[.int .i64 ((j : Int) + 1), .int .i64 1, .int .i64 (n : Int)] W fun e w' => e = .returned (.int .i64 0) ∧ W = w') := fun W => by
    have e0 : eN ((j : Int) + 1) 1 n = 0 := eN_zero (by omega) (by omega)
    exact (number_any _ 1 n W).mono fun e w' ⟨he, hw⟩ => ⟨by rw [he, e0], hw⟩
  have HN2 : Hid (∀ W, Calls Try.prog 63 #[.int .i64 (most : Int), .int .i64 0, .int .i64 200] W fun e w' => e = .returned (.int .i64 0) ∧ W = w') := fun W => by
    have e0 : eN (most : Int) 0 200 = 0 := eN_zero (by omega) (by omega)
    exact (number_any _ 0 200 W).mono fun e w' ⟨he, hw⟩ => ⟨by rw [he, e0], hw⟩
  obtain ⟨aT, cT, hT⟩ : ∃ q c, sliced (some ⟨b, o, none⟩) 0 j dcap 6 = .slice q j c := ⟨_, _, rfl⟩
  have S1 : ∀ W, (Instr.slice 38 (.slice (some ⟨b, o, none⟩) n dcap) none (some (.int .i64 (j : Int))) none).run Try.prog W = .ok (.slice aT j cT) W := fun W => by rw [← hT]; exact slice_day _ n dcap j (by omega) W
  have HL := Lib.hid (show ∀ W, Below w.heap.size w W → Calls Try.prog 88 #[.agg #[.int .i64 l.gr, .int .i64 l.la, (.slice va l.n vcap), .int .i64 l.m0, .int .i64 l.m1, .int .i64 l.so, .int .i64 l.h0, .int .i64 l.h1], .agg #[.int .i64 x.b0, .int .i64 x.b1, .int .i64 x.w0, .int .i64 x.w1, .int .i64 x.q0, .int .i64 x.q1, .int .i64 x.s0, .int .i64 x.s1], .slice aT j cT] W fun e w' => ∃ y : Ic, y = iceAt l d x j ∧ e = .returned (.agg #[.int .i64 y.b0, .int .i64 y.b1, .int .i64 y.w0, .int .i64 y.w1, .int .i64 y.q0, .int .i64 y.q1, .int .i64 y.s0, .int .i64 y.s1]) ∧ Below W.heap.size W w' from fun W hW => by
    have kDk : DaysAt W (.slice aT j cT) j d := by
      have q := (hd.later hW).sl 0 j (by omega) (by omega)
      rw [hT] at q
      simpa using q
    exact (last_kit l (.slice va l.n vcap) x (.slice aT j cT) j d W hl (hv.later hW) (fun k hk1 => hIn k (by omega)) kDk (fun i hi => hk i (by omega)) (Nat.lt_of_lt_of_le (Nat.lt_of_le_of_lt (Nat.zero_le _) zb) hW.size)).mono fun e w' ⟨he, hb⟩ => ⟨_, rfl, he, hb⟩)
  have HDr := Lib.hid (fun (bL bB bD bV bA : Nat) z1 z2 z3 z4 z5 (water : Int) g0 g1 (W : World) => dries_in w l va vcap (some ⟨b, o, none⟩) n dcap d x j bL bB bD bV bA hl hv hx hd hn hj hk z1 z2 z3 z4 z5 water g0 g1 W)
  have e1 : IntKind.i64.wrap ((j : Int) + 1 - 1) = (j : Int) := by rw [IntWalk.i64_in _ (by omega)]; omega
  have e2 : IntKind.i64.wrap (j : Int) = (j : Int) := IntWalk.i64_in _ (by omega)
  clear hT hIn hv hd hk
  go_enter Try.func50, Try.ntmps50
  have jL := (((Blk.new w #[.int .i64 l.gr, .int .i64 l.la, .slice va l.n vcap, .int .i64 l.m0, .int .i64 l.m1, .int .i64 l.so, .int .i64 l.h0, .int .i64 l.h1] 26).alloc (.cells #[.int .i64 x.b0, .int .i64 x.b1, .int .i64 x.w0, .int .i64 x.w1, .int .i64 x.q0, .int .i64 x.q1, .int .i64 x.s0, .int .i64 x.s1] 28)).alloc (.cells #[.slice (some ⟨b, o, none⟩) n dcap] 38)).alloc (.cells #[.int .i64 ((j : Int) + 1)] 3)
  have jX := ((Blk.new1 w (.cells #[.int .i64 l.gr, .int .i64 l.la, .slice va l.n vcap, .int .i64 l.m0, .int .i64 l.m1, .int .i64 l.so, .int .i64 l.h0, .int .i64 l.h1] 26) #[.int .i64 x.b0, .int .i64 x.b1, .int .i64 x.w0, .int .i64 x.w1, .int .i64 x.q0, .int .i64 x.q1, .int .i64 x.s0, .int .i64 x.s1] 28).alloc (.cells #[.slice (some ⟨b, o, none⟩) n dcap] 38)).alloc (.cells #[.int .i64 ((j : Int) + 1)] 3)
  have jV := (Blk.new2 w (.cells #[.int .i64 l.gr, .int .i64 l.la, .slice va l.n vcap, .int .i64 l.m0, .int .i64 l.m1, .int .i64 l.so, .int .i64 l.h0, .int .i64 l.h1] 26) (.cells #[.int .i64 x.b0, .int .i64 x.b1, .int .i64 x.w0, .int .i64 x.w1, .int .i64 x.q0, .int .i64 x.q1, .int .i64 x.s0, .int .i64 x.s1] 28) #[.slice (some ⟨b, o, none⟩) n dcap] 38).alloc (.cells #[.int .i64 ((j : Int) + 1)] 3)
  have jA := Blk.new3 w (.cells #[.int .i64 l.gr, .int .i64 l.la, .slice va l.n vcap, .int .i64 l.m0, .int .i64 l.m1, .int .i64 l.so, .int .i64 l.h0, .int .i64 l.h1] 26) (.cells #[.int .i64 x.b0, .int .i64 x.b1, .int .i64 x.w0, .int .i64 x.w1, .int .i64 x.q0, .int .i64 x.q1, .int .i64 x.s0, .int .i64 x.s1] 28) (.cells #[.slice (some ⟨b, o, none⟩) n dcap] 38) #[.int .i64 ((j : Int) + 1)] 3
  have jB : Below w.heap.size w ((((w.alloc (.cells #[.int .i64 l.gr, .int .i64 l.la, .slice va l.n vcap, .int .i64 l.m0, .int .i64 l.m1, .int .i64 l.so, .int .i64 l.h0, .int .i64 l.h1] 26)).alloc (.cells #[.int .i64 x.b0, .int .i64 x.b1, .int .i64 x.w0, .int .i64 x.w1, .int .i64 x.q0, .int .i64 x.q1, .int .i64 x.s0, .int .i64 x.s1] 28)).alloc (.cells #[.slice (some ⟨b, o, none⟩) n dcap] 38)).alloc (.cells #[.int .i64 ((j : Int) + 1)] 3)) := by (repeat (first | exact Below.refl _ _ | assumption | refine Below.drew ?_ | refine Below.drewN ?_ _ | refine blT ?_ | refine blU ?_))
  go_wp2_with fail
  refine (HA.out _ jB).mono ?_
  rintro e w1 ⟨rfl, hb⟩
  replace jL := jL.call hb
  replace jX := jX.call hb
  replace jV := jV.call hb
  replace jA := jA.call hb
  replace jB := bwS jB (Nat.le_refl _) hb
  clear hb
  have v0 := jV.cell1
  have a0 := jA.cell1
  have zV := jV.lt
  have zA := jA.lt
  go_wp2_with fail
  refine (HN1.out _).mono ?_
  rintro e w2 ⟨rfl, rfl⟩
  go_wp2_with fail
  refine (HN2.out _).mono ?_
  rintro e w2 ⟨rfl, rfl⟩
  go_wp2_with fail
  refine (first_two _ _ 0 0 _ ?_ ?_).mono ?_
  · simp
  · simp
  rintro e w3 ⟨rfl, hw3⟩
  have bW3 : Below w1.heap.size w1 w3 := by rw [← hw3]; (repeat (first | exact Below.refl _ _ | assumption | refine Below.drew ?_ | refine Below.drewN ?_ _ | refine blT ?_ | refine blU ?_))
  clear hw3 v0 a0 zV zA HN1 HN2 HA
  replace jL := jL.call bW3
  replace jX := jX.call bW3
  replace jV := jV.call bW3
  replace jA := jA.call bW3
  replace jB := bwS jB (Nat.le_refl _) bW3
  clear bW3
  obtain ⟨dk, hdk⟩ : ∃ z, d j = z := ⟨_, rfl⟩
  rw [hdk] at hcj
  have HK := Lib.hid hdk
  clear hdk
  obtain ⟨c0, c1, f0, f1, wa, cl⟩ := dk
  dsimp only at hcj
  replace hcj : w3.cell? _ = _ ∧ w3.cell? _ = _ ∧ w3.cell? _ = _ ∧ w3.cell? _ = _ ∧ w3.cell? _ = _ ∧ w3.cell? _ = _ := ⟨cell_later jB hcj.1, cell_later jB hcj.2.1, cell_later jB hcj.2.2.1, cell_later jB hcj.2.2.2.1, cell_later jB hcj.2.2.2.2.1, cell_later jB hcj.2.2.2.2.2⟩
  have zb3 := World.block_lt_of_cell? _ _ hcj.1
  go_upto_region 6 with fail
  obtain ⟨B3, hB3⟩ : ∃ q, w3.heap.size = q := ⟨_, rfl⟩
  have HB3 := Lib.hid hB3
  have zwB : w.heap.size ≤ B3 := by have := jB.size; omega
  have zB3 : B3 ≤ w3.heap.size := by omega
  clear hB3
  go_cut [13, 14] (fun s13 s14 wx => ∃ (bB bD : Nat) (z : Ic), z = iceAt l d x j ∧ s13 = .pointer (some ⟨bB, 0, none⟩) ∧ s14 = .pointer (some ⟨bD, 0, none⟩) ∧ B3 ≤ bB ∧ B3 ≤ bD ∧ bB ≠ bD ∧ Blk wx bB #[.int .i64 z.b0, .int .i64 z.b1, .int .i64 z.w0, .int .i64 z.w1, .int .i64 z.q0, .int .i64 z.q1, .int .i64 z.s0, .int .i64 z.s1] 28 ∧ Blk wx bD #[.int .i64 c0, .int .i64 c1, .int .i64 f0, .int .i64 f1, .int .i64 wa, .bool cl] 30 ∧ Below B3 w3 wx)
  case first =>
    (
 refine wp_region_held_drew (S := (fun w' => Below B3 w3 w')) (by kernel_rfl) ?_ (fun hH => ?_)
 · (try dsimp only); (exact (Below.refl _ _).drew)
 refine tkY 0 (some 34) ?_ ?_ ?_
 rotate_left
 · intro w hS0; (try dsimp only at hS0); have hS2 := hS0; rw [← HB3.out] at hS2; have kl := jL.call hS2; have ki := jX.call hS2; have kv := jV.call hS2; have ka := jA.call hS2; obtain ⟨l0, l1, l2, l3, l4, l5, l6, l7⟩ := kl.c8; obtain ⟨i0, i1, i2, i3, i4, i5, i6, i7⟩ := ki.c8; have v0 := kv.cell1; have a0 := ka.cell1; have y1 := kl.lt; have y2 := ki.lt; have y4 := kv.lt; have y5 := ka.lt; have p0 := cell_later hS2 hcj.1; have p1 := cell_later hS2 hcj.2.1; have p2 := cell_later hS2 hcj.2.2.1; have p3 := cell_later hS2 hcj.2.2.2.1; have p4 := cell_later hS2 hcj.2.2.2.2.1; have p5 := cell_later hS2 hcj.2.2.2.2.2;go_simp; (try with_reducible rfl)
 (try simp only [cq])
 refine tkY 1 (some 35) ?_ ?_ ?_
 rotate_left
 · intro w hS0; (try dsimp only at hS0); have hS2 := hS0; rw [← HB3.out] at hS2; have kl := jL.call hS2; have ki := jX.call hS2; have kv := jV.call hS2; have ka := jA.call hS2; obtain ⟨l0, l1, l2, l3, l4, l5, l6, l7⟩ := kl.c8; obtain ⟨i0, i1, i2, i3, i4, i5, i6, i7⟩ := ki.c8; have v0 := kv.cell1; have a0 := ka.cell1; have y1 := kl.lt; have y2 := ki.lt; have y4 := kv.lt; have y5 := ka.lt; have p0 := cell_later hS2 hcj.1; have p1 := cell_later hS2 hcj.2.1; have p2 := cell_later hS2 hcj.2.2.1; have p3 := cell_later hS2 hcj.2.2.2.1; have p4 := cell_later hS2 hcj.2.2.2.2.1; have p5 := cell_later hS2 hcj.2.2.2.2.2;go_simp; (try with_reducible rfl)
 (try simp only [cq])
 refine tkY 2 (some 36) ?_ ?_ ?_
 rotate_left
 · intro w hS0; (try dsimp only at hS0); have hS2 := hS0; rw [← HB3.out] at hS2; have kl := jL.call hS2; have ki := jX.call hS2; have kv := jV.call hS2; have ka := jA.call hS2; obtain ⟨l0, l1, l2, l3, l4, l5, l6, l7⟩ := kl.c8; obtain ⟨i0, i1, i2, i3, i4, i5, i6, i7⟩ := ki.c8; have v0 := kv.cell1; have a0 := ka.cell1; have y1 := kl.lt; have y2 := ki.lt; have y4 := kv.lt; have y5 := ka.lt; have p0 := cell_later hS2 hcj.1; have p1 := cell_later hS2 hcj.2.1; have p2 := cell_later hS2 hcj.2.2.1; have p3 := cell_later hS2 hcj.2.2.2.1; have p4 := cell_later hS2 hcj.2.2.2.2.1; have p5 := cell_later hS2 hcj.2.2.2.2.2;go_simp; (try with_reducible rfl)
 (try simp only [cq])
 refine tkY 3 (some 37) ?_ ?_ ?_
 rotate_left
 · intro w hS0; (try dsimp only at hS0); have hS2 := hS0; rw [← HB3.out] at hS2; have kl := jL.call hS2; have ki := jX.call hS2; have kv := jV.call hS2; have ka := jA.call hS2; obtain ⟨l0, l1, l2, l3, l4, l5, l6, l7⟩ := kl.c8; obtain ⟨i0, i1, i2, i3, i4, i5, i6, i7⟩ := ki.c8; have v0 := kv.cell1; have a0 := ka.cell1; have y1 := kl.lt; have y2 := ki.lt; have y4 := kv.lt; have y5 := ka.lt; have p0 := cell_later hS2 hcj.1; have p1 := cell_later hS2 hcj.2.1; have p2 := cell_later hS2 hcj.2.2.1; have p3 := cell_later hS2 hcj.2.2.2.1; have p4 := cell_later hS2 hcj.2.2.2.2.1; have p5 := cell_later hS2 hcj.2.2.2.2.2;go_simp; (try with_reducible rfl)
 (try simp only [cq])
 refine tkY 4 (some 38) ?_ ?_ ?_
 rotate_left
 · intro w _; go_simp; (try with_reducible rfl)
 (try simp only [cq])
 refine tkY 5 (some 39) ?_ ?_ ?_
 rotate_left
 · intro w hS0; (try dsimp only at hS0); have hS2 := hS0; rw [← HB3.out] at hS2; have kl := jL.call hS2; have ki := jX.call hS2; have kv := jV.call hS2; have ka := jA.call hS2; obtain ⟨l0, l1, l2, l3, l4, l5, l6, l7⟩ := kl.c8; obtain ⟨i0, i1, i2, i3, i4, i5, i6, i7⟩ := ki.c8; have v0 := kv.cell1; have a0 := ka.cell1; have y1 := kl.lt; have y2 := ki.lt; have y4 := kv.lt; have y5 := ka.lt; have p0 := cell_later hS2 hcj.1; have p1 := cell_later hS2 hcj.2.1; have p2 := cell_later hS2 hcj.2.2.1; have p3 := cell_later hS2 hcj.2.2.2.1; have p4 := cell_later hS2 hcj.2.2.2.2.1; have p5 := cell_later hS2 hcj.2.2.2.2.2;go_simp; (try with_reducible rfl)
 (try simp only [cq])
 refine tkY 7 (some 41) ?_ ?_ ?_
 rotate_left
 · intro w hS0; (try dsimp only at hS0); have hS2 := hS0; rw [← HB3.out] at hS2; have kl := jL.call hS2; have ki := jX.call hS2; have kv := jV.call hS2; have ka := jA.call hS2; obtain ⟨l0, l1, l2, l3, l4, l5, l6, l7⟩ := kl.c8; obtain ⟨i0, i1, i2, i3, i4, i5, i6, i7⟩ := ki.c8; have v0 := kv.cell1; have a0 := ka.cell1; have y1 := kl.lt; have y2 := ki.lt; have y4 := kv.lt; have y5 := ka.lt; have p0 := cell_later hS2 hcj.1; have p1 := cell_later hS2 hcj.2.1; have p2 := cell_later hS2 hcj.2.2.1; have p3 := cell_later hS2 hcj.2.2.2.1; have p4 := cell_later hS2 hcj.2.2.2.2.1; have p5 := cell_later hS2 hcj.2.2.2.2.2;go_simp; (try with_reducible rfl)
 (try simp only [cq])
 refine tkY 8 (some 42) ?_ ?_ ?_
 rotate_left
 · intro w hS0; (try dsimp only at hS0); have hS2 := hS0; rw [← HB3.out] at hS2; have kl := jL.call hS2; have ki := jX.call hS2; have kv := jV.call hS2; have ka := jA.call hS2; obtain ⟨l0, l1, l2, l3, l4, l5, l6, l7⟩ := kl.c8; obtain ⟨i0, i1, i2, i3, i4, i5, i6, i7⟩ := ki.c8; have v0 := kv.cell1; have a0 := ka.cell1; have y1 := kl.lt; have y2 := ki.lt; have y4 := kv.lt; have y5 := ka.lt; have p0 := cell_later hS2 hcj.1; have p1 := cell_later hS2 hcj.2.1; have p2 := cell_later hS2 hcj.2.2.1; have p3 := cell_later hS2 hcj.2.2.2.1; have p4 := cell_later hS2 hcj.2.2.2.2.1; have p5 := cell_later hS2 hcj.2.2.2.2.2;go_simp; (try with_reducible rfl)
 (try simp only [cq])
 refine tkY 9 (some 43) ?_ ?_ ?_
 rotate_left
 · intro w _; go_simp; (try with_reducible rfl)
 (try simp only [cq])
 refine tkY 10 (some 44) ?_ ?_ ?_
 rotate_left
 · intro w hS0; (try dsimp only at hS0); have hS2 := hS0; rw [← HB3.out] at hS2; have kl := jL.call hS2; have ki := jX.call hS2; have kv := jV.call hS2; have ka := jA.call hS2; obtain ⟨l0, l1, l2, l3, l4, l5, l6, l7⟩ := kl.c8; obtain ⟨i0, i1, i2, i3, i4, i5, i6, i7⟩ := ki.c8; have v0 := kv.cell1; have a0 := ka.cell1; have y1 := kl.lt; have y2 := ki.lt; have y4 := kv.lt; have y5 := ka.lt; have p0 := cell_later hS2 hcj.1; have p1 := cell_later hS2 hcj.2.1; have p2 := cell_later hS2 hcj.2.2.1; have p3 := cell_later hS2 hcj.2.2.2.1; have p4 := cell_later hS2 hcj.2.2.2.2.1; have p5 := cell_later hS2 hcj.2.2.2.2.2;go_simp; (try with_reducible rfl)
 (try simp only [cq])
 refine tkY 11 (some 45) ?_ ?_ ?_
 rotate_left
 · intro w hS0; (try dsimp only at hS0); have hS2 := hS0; rw [← HB3.out] at hS2; have kl := jL.call hS2; have ki := jX.call hS2; have kv := jV.call hS2; have ka := jA.call hS2; obtain ⟨l0, l1, l2, l3, l4, l5, l6, l7⟩ := kl.c8; obtain ⟨i0, i1, i2, i3, i4, i5, i6, i7⟩ := ki.c8; have v0 := kv.cell1; have a0 := ka.cell1; have y1 := kl.lt; have y2 := ki.lt; have y4 := kv.lt; have y5 := ka.lt; have p0 := cell_later hS2 hcj.1; have p1 := cell_later hS2 hcj.2.1; have p2 := cell_later hS2 hcj.2.2.1; have p3 := cell_later hS2 hcj.2.2.2.1; have p4 := cell_later hS2 hcj.2.2.2.2.1; have p5 := cell_later hS2 hcj.2.2.2.2.2;go_simp; (try with_reducible rfl)
 (try simp only [cq])
 refine wpAnyH_ready (rs := [6, 12, 13]) (by kernel_rfl) (by simp) ?_
 refine arc (some 40) (fun K hK => ?_) ?_
 {
 go_simp
 (refine (HL.out _ (jB.trans (hH.mono zwB))).mono ?_; rintro e w' ⟨z, hz, rfl, hb⟩; have HZ := Lib.hid hz; clear hz)
 refine hK.out _ _ ?_ (fun hH => ?_)
 · (exact hH.trans (hb.mono (by have := hH.size; omega)))
 (try (replace kB := kB.call hb))
 (try (replace kD := kD.call hb))
 clear hb
 clear hK K
 (try simp only [cq])
 refine wpAnyH_ready (rs := [12, 13]) (by kernel_rfl) (by simp) ?_
 refine arc (some 13) (fun K hK => ?_) ?_
 {
 have zz : B3 ≤ _ := Nat.le_trans zB3 hH.size
 (try (have zx := kD.lt))
 go_simp
 first | refine oA hK ?_ (fun hH hA => ?_) | refine oD hK ?_ (fun hH hA => ?_)
 · exact hH.alloc (Nat.le_trans zB3 hH.size) _
 (try (replace kD := kD.alloc (.cells #[.int .i64 0, .int .i64 0, .int .i64 0, .int .i64 0, .int .i64 0, .int .i64 0, .int .i64 0, .int .i64 0] 28)))
 have kB := hA
 clear hA
 obtain ⟨bB, hbB⟩ : ∃ b, Blk.num kB = b := ⟨_, rfl⟩
 obtain ⟨Wn, hWn⟩ : ∃ V, Blk.wld kB = V := ⟨_, rfl⟩
 simp only [Blk.num] at hbB
 simp only [Blk.wld] at hWn
 rw [hWn] at hH kB ⊢
 (try rw [hWn] at kD)
 rw [hbB] at kB ⊢
 replace zz : B3 ≤ bB := by rw [← hbB]; exact zz
 (try (replace zx : bD < bB := by rw [← hbB]; exact zx))
 have zB := zz
 clear zz hbB hWn
 (try (have hne : bB ≠ bD := by omega))
 clear hK K
 (try simp only [cq])
 refine wpAnyH_ready (rs := [13]) (by kernel_rfl) (by simp) ?_
 refine arc1 (some 14) fun K hK => ?_
 have zz : B3 ≤ _ := Nat.le_trans zB3 hH.size
 (try (have zx := kB.lt))
 go_simp
 first | refine oA hK ?_ (fun hH hA => ?_) | refine oD hK ?_ (fun hH hA => ?_)
 · exact hH.alloc (Nat.le_trans zB3 hH.size) _
 (try (replace kB := kB.alloc (.cells #[.int .i64 0, .int .i64 0, .int .i64 0, .int .i64 0, .int .i64 0, .bool false] 30)))
 have kD := hA
 clear hA
 obtain ⟨bD, hbD⟩ : ∃ b, Blk.num kD = b := ⟨_, rfl⟩
 obtain ⟨Wn, hWn⟩ : ∃ V, Blk.wld kD = V := ⟨_, rfl⟩
 simp only [Blk.num] at hbD
 simp only [Blk.wld] at hWn
 rw [hWn] at hH kD ⊢
 (try rw [hWn] at kB)
 rw [hbD] at kD ⊢
 replace zz : B3 ≤ bD := by rw [← hbD]; exact zz
 (try (replace zx : bB < bD := by rw [← hbD]; exact zx))
 have zD := zz
 clear zz hbD hWn
 (try (have hne : bB ≠ bD := by omega))
 clear hK K
 (try simp only [cq])
 refine wpAnyH_ready (rs := [14]) (by kernel_rfl) (by simp) ?_
 refine arc1 none fun K hK => ?_
 obtain ⟨r0, r1, r2, r3, r4, r5, r6, r7⟩ := kB.c8
 have fr0 := kB.free 0
 have fr1 := kB.free 1
 have fr2 := kB.free 2
 have fr3 := kB.free 3
 have fr4 := kB.free 4
 have fr5 := kB.free 5
 have fr6 := kB.free 6
 have fr7 := kB.free 7
 have zR := kB.lt
 have H1 := Lib.hid (kB.set8 (.int .i64 z.b0) (.int .i64 z.b1) (.int .i64 z.w0) (.int .i64 z.w1) (.int .i64 z.q0) (.int .i64 z.q1) (.int .i64 z.s0) (.int .i64 z.s1))
 have H2 := Lib.hid (kD.other8 (c := bB) (Ne.symm hne) (.int .i64 z.b0) (.int .i64 z.b1) (.int .i64 z.w0) (.int .i64 z.w1) (.int .i64 z.q0) (.int .i64 z.q1) (.int .i64 z.s0) (.int .i64 z.s1))
 have H3 := Lib.hid (below_set8 hH zB (.int .i64 z.b0) (.int .i64 z.b1) (.int .i64 z.w0) (.int .i64 z.w1) (.int .i64 z.q0) (.int .i64 z.q1) (.int .i64 z.s0) (.int .i64 z.s1))
 clear hH
 go_simp
 refine hK.out _ _ ?_ (fun hH => ?_)
 · exact H3.out
 clear r0 r1 r2 r3 r4 r5 r6 r7 fr0 fr1 fr2 fr3 fr4 fr5 fr6 fr7 zR
 replace kB := H1.out
 replace kD := H2.out
 clear H1 H2 H3
 obtain ⟨Wn, hWn⟩ : ∃ V, Blk.wld kB = V := ⟨_, rfl⟩
 simp only [Blk.wld] at hWn
 rw [hWn] at hH kB kD ⊢
 clear hWn
 clear hK K
 (try simp only [cq])
 refine wpAnyH_ready (rs := [15]) (by kernel_rfl) (by simp) ?_
 refine arc1 none fun K hK => ?_
 obtain ⟨r0, r1, r2, r3, r4, r5⟩ := kD.c6
 have fr0 := kD.free 0
 have fr1 := kD.free 1
 have fr2 := kD.free 2
 have fr3 := kD.free 3
 have fr4 := kD.free 4
 have fr5 := kD.free 5
 have zR := kD.lt
 have H1 := Lib.hid (kD.set6 (.int .i64 c0) (.int .i64 c1) (.int .i64 f0) (.int .i64 f1) (.int .i64 wa) (.bool cl))
 have H2 := Lib.hid ((((((kB.other ⟨bD, 0, none⟩ (.int .i64 c0) hne).other ⟨bD, 1, none⟩ (.int .i64 c1) hne).other ⟨bD, 2, none⟩ (.int .i64 f0) hne).other ⟨bD, 3, none⟩ (.int .i64 f1) hne).other ⟨bD, 4, none⟩ (.int .i64 wa) hne).other ⟨bD, 5, none⟩ (.bool cl) hne)
 have H3 := Lib.hid ((((((hH.setCell (p := ⟨bD, 0, none⟩) zD (.int .i64 c0)).setCell (p := ⟨bD, 1, none⟩) zD (.int .i64 c1)).setCell (p := ⟨bD, 2, none⟩) zD (.int .i64 f0)).setCell (p := ⟨bD, 3, none⟩) zD (.int .i64 f1)).setCell (p := ⟨bD, 4, none⟩) zD (.int .i64 wa)).setCell (p := ⟨bD, 5, none⟩) zD (.bool cl))
 clear hH
 go_simp
 refine hK.out _ _ ?_ (fun hH => ?_)
 · exact H3.out
 clear r0 r1 r2 r3 r4 r5 fr0 fr1 fr2 fr3 fr4 fr5 zR
 replace kD := H1.out
 replace kB := H2.out
 clear H1 H2 H3
 obtain ⟨Wn, hWn⟩ : ∃ V, Blk.wld kB = V := ⟨_, rfl⟩
 simp only [Blk.wld] at hWn
 rw [hWn] at hH kB kD ⊢
 clear hWn
 clear hK K
 (try simp only [cq])
 refine wpAnyH_done (by kernel_rfl) ?_ _
 (try dsimp only [Act.put])
 (try simp only [cq])
 go_wp2_with fail
 go_meet
 exact ⟨bB, bD, z, HZ.out, rfl, rfl, zB, zD, hne, kB, kD, hH⟩
 }
 refine arc (some 14) (fun K hK => ?_) ?_
 {
 have zz : B3 ≤ _ := Nat.le_trans zB3 hH.size
 (try (have zx := kB.lt))
 go_simp
 first | refine oA hK ?_ (fun hH hA => ?_) | refine oD hK ?_ (fun hH hA => ?_)
 · exact hH.alloc (Nat.le_trans zB3 hH.size) _
 (try (replace kB := kB.alloc (.cells #[.int .i64 0, .int .i64 0, .int .i64 0, .int .i64 0, .int .i64 0, .bool false] 30)))
 have kD := hA
 clear hA
 obtain ⟨bD, hbD⟩ : ∃ b, Blk.num kD = b := ⟨_, rfl⟩
 obtain ⟨Wn, hWn⟩ : ∃ V, Blk.wld kD = V := ⟨_, rfl⟩
 simp only [Blk.num] at hbD
 simp only [Blk.wld] at hWn
 rw [hWn] at hH kD ⊢
 (try rw [hWn] at kB)
 rw [hbD] at kD ⊢
 replace zz : B3 ≤ bD := by rw [← hbD]; exact zz
 (try (replace zx : bB < bD := by rw [← hbD]; exact zx))
 have zD := zz
 clear zz hbD hWn
 (try (have hne : bB ≠ bD := by omega))
 clear hK K
 (try simp only [cq])
 refine wpAnyH_ready (rs := [12]) (by kernel_rfl) (by simp) ?_
 refine arc1 (some 13) fun K hK => ?_
 have zz : B3 ≤ _ := Nat.le_trans zB3 hH.size
 (try (have zx := kD.lt))
 go_simp
 first | refine oA hK ?_ (fun hH hA => ?_) | refine oD hK ?_ (fun hH hA => ?_)
 · exact hH.alloc (Nat.le_trans zB3 hH.size) _
 (try (replace kD := kD.alloc (.cells #[.int .i64 0, .int .i64 0, .int .i64 0, .int .i64 0, .int .i64 0, .int .i64 0, .int .i64 0, .int .i64 0] 28)))
 have kB := hA
 clear hA
 obtain ⟨bB, hbB⟩ : ∃ b, Blk.num kB = b := ⟨_, rfl⟩
 obtain ⟨Wn, hWn⟩ : ∃ V, Blk.wld kB = V := ⟨_, rfl⟩
 simp only [Blk.num] at hbB
 simp only [Blk.wld] at hWn
 rw [hWn] at hH kB ⊢
 (try rw [hWn] at kD)
 rw [hbB] at kB ⊢
 replace zz : B3 ≤ bB := by rw [← hbB]; exact zz
 (try (replace zx : bD < bB := by rw [← hbB]; exact zx))
 have zB := zz
 clear zz hbB hWn
 (try (have hne : bB ≠ bD := by omega))
 clear hK K
 (try simp only [cq])
 refine wpAnyH_ready (rs := [14]) (by kernel_rfl) (by simp) ?_
 refine arc1 none fun K hK => ?_
 obtain ⟨r0, r1, r2, r3, r4, r5, r6, r7⟩ := kB.c8
 have fr0 := kB.free 0
 have fr1 := kB.free 1
 have fr2 := kB.free 2
 have fr3 := kB.free 3
 have fr4 := kB.free 4
 have fr5 := kB.free 5
 have fr6 := kB.free 6
 have fr7 := kB.free 7
 have zR := kB.lt
 have H1 := Lib.hid (kB.set8 (.int .i64 z.b0) (.int .i64 z.b1) (.int .i64 z.w0) (.int .i64 z.w1) (.int .i64 z.q0) (.int .i64 z.q1) (.int .i64 z.s0) (.int .i64 z.s1))
 have H2 := Lib.hid (kD.other8 (c := bB) (Ne.symm hne) (.int .i64 z.b0) (.int .i64 z.b1) (.int .i64 z.w0) (.int .i64 z.w1) (.int .i64 z.q0) (.int .i64 z.q1) (.int .i64 z.s0) (.int .i64 z.s1))
 have H3 := Lib.hid (below_set8 hH zB (.int .i64 z.b0) (.int .i64 z.b1) (.int .i64 z.w0) (.int .i64 z.w1) (.int .i64 z.q0) (.int .i64 z.q1) (.int .i64 z.s0) (.int .i64 z.s1))
 clear hH
 go_simp
 refine hK.out _ _ ?_ (fun hH => ?_)
 · exact H3.out
 clear r0 r1 r2 r3 r4 r5 r6 r7 fr0 fr1 fr2 fr3 fr4 fr5 fr6 fr7 zR
 replace kB := H1.out
 replace kD := H2.out
 clear H1 H2 H3
 obtain ⟨Wn, hWn⟩ : ∃ V, Blk.wld kB = V := ⟨_, rfl⟩
 simp only [Blk.wld] at hWn
 rw [hWn] at hH kB kD ⊢
 clear hWn
 clear hK K
 (try simp only [cq])
 refine wpAnyH_ready (rs := [15]) (by kernel_rfl) (by simp) ?_
 refine arc1 none fun K hK => ?_
 obtain ⟨r0, r1, r2, r3, r4, r5⟩ := kD.c6
 have fr0 := kD.free 0
 have fr1 := kD.free 1
 have fr2 := kD.free 2
 have fr3 := kD.free 3
 have fr4 := kD.free 4
 have fr5 := kD.free 5
 have zR := kD.lt
 have H1 := Lib.hid (kD.set6 (.int .i64 c0) (.int .i64 c1) (.int .i64 f0) (.int .i64 f1) (.int .i64 wa) (.bool cl))
 have H2 := Lib.hid ((((((kB.other ⟨bD, 0, none⟩ (.int .i64 c0) hne).other ⟨bD, 1, none⟩ (.int .i64 c1) hne).other ⟨bD, 2, none⟩ (.int .i64 f0) hne).other ⟨bD, 3, none⟩ (.int .i64 f1) hne).other ⟨bD, 4, none⟩ (.int .i64 wa) hne).other ⟨bD, 5, none⟩ (.bool cl) hne)
 have H3 := Lib.hid ((((((hH.setCell (p := ⟨bD, 0, none⟩) zD (.int .i64 c0)).setCell (p := ⟨bD, 1, none⟩) zD (.int .i64 c1)).setCell (p := ⟨bD, 2, none⟩) zD (.int .i64 f0)).setCell (p := ⟨bD, 3, none⟩) zD (.int .i64 f1)).setCell (p := ⟨bD, 4, none⟩) zD (.int .i64 wa)).setCell (p := ⟨bD, 5, none⟩) zD (.bool cl))
 clear hH
 go_simp
 refine hK.out _ _ ?_ (fun hH => ?_)
 · exact H3.out
 clear r0 r1 r2 r3 r4 r5 fr0 fr1 fr2 fr3 fr4 fr5 zR
 replace kD := H1.out
 replace kB := H2.out
 clear H1 H2 H3
 obtain ⟨Wn, hWn⟩ : ∃ V, Blk.wld kB = V := ⟨_, rfl⟩
 simp only [Blk.wld] at hWn
 rw [hWn] at hH kB kD ⊢
 clear hWn
 clear hK K
 (try simp only [cq])
 refine wpAnyH_done (by kernel_rfl) ?_ _
 (try dsimp only [Act.put])
 (try simp only [cq])
 go_wp2_with fail
 go_meet
 exact ⟨bB, bD, z, HZ.out, rfl, rfl, zB, zD, hne, kB, kD, hH⟩
 }
 exact AllReadyH.nil
 }
 refine arc (some 13) (fun K hK => ?_) ?_
 {
 have zz : B3 ≤ _ := Nat.le_trans zB3 hH.size
 (try (have zx := kD.lt))
 go_simp
 first | refine oA hK ?_ (fun hH hA => ?_) | refine oD hK ?_ (fun hH hA => ?_)
 · exact hH.alloc (Nat.le_trans zB3 hH.size) _
 (try (replace kD := kD.alloc (.cells #[.int .i64 0, .int .i64 0, .int .i64 0, .int .i64 0, .int .i64 0, .int .i64 0, .int .i64 0, .int .i64 0] 28)))
 have kB := hA
 clear hA
 obtain ⟨bB, hbB⟩ : ∃ b, Blk.num kB = b := ⟨_, rfl⟩
 obtain ⟨Wn, hWn⟩ : ∃ V, Blk.wld kB = V := ⟨_, rfl⟩
 simp only [Blk.num] at hbB
 simp only [Blk.wld] at hWn
 rw [hWn] at hH kB ⊢
 (try rw [hWn] at kD)
 rw [hbB] at kB ⊢
 replace zz : B3 ≤ bB := by rw [← hbB]; exact zz
 (try (replace zx : bD < bB := by rw [← hbB]; exact zx))
 have zB := zz
 clear zz hbB hWn
 (try (have hne : bB ≠ bD := by omega))
 clear hK K
 (try simp only [cq])
 refine wpAnyH_ready (rs := [6, 13]) (by kernel_rfl) (by simp) ?_
 refine arc (some 40) (fun K hK => ?_) ?_
 {
 go_simp
 (refine (HL.out _ (jB.trans (hH.mono zwB))).mono ?_; rintro e w' ⟨z, hz, rfl, hb⟩; have HZ := Lib.hid hz; clear hz)
 refine hK.out _ _ ?_ (fun hH => ?_)
 · (exact hH.trans (hb.mono (by have := hH.size; omega)))
 (try (replace kB := kB.call hb))
 (try (replace kD := kD.call hb))
 clear hb
 clear hK K
 (try simp only [cq])
 refine wpAnyH_ready (rs := [13]) (by kernel_rfl) (by simp) ?_
 refine arc1 (some 14) fun K hK => ?_
 have zz : B3 ≤ _ := Nat.le_trans zB3 hH.size
 (try (have zx := kB.lt))
 go_simp
 first | refine oA hK ?_ (fun hH hA => ?_) | refine oD hK ?_ (fun hH hA => ?_)
 · exact hH.alloc (Nat.le_trans zB3 hH.size) _
 (try (replace kB := kB.alloc (.cells #[.int .i64 0, .int .i64 0, .int .i64 0, .int .i64 0, .int .i64 0, .bool false] 30)))
 have kD := hA
 clear hA
 obtain ⟨bD, hbD⟩ : ∃ b, Blk.num kD = b := ⟨_, rfl⟩
 obtain ⟨Wn, hWn⟩ : ∃ V, Blk.wld kD = V := ⟨_, rfl⟩
 simp only [Blk.num] at hbD
 simp only [Blk.wld] at hWn
 rw [hWn] at hH kD ⊢
 (try rw [hWn] at kB)
 rw [hbD] at kD ⊢
 replace zz : B3 ≤ bD := by rw [← hbD]; exact zz
 (try (replace zx : bB < bD := by rw [← hbD]; exact zx))
 have zD := zz
 clear zz hbD hWn
 (try (have hne : bB ≠ bD := by omega))
 clear hK K
 (try simp only [cq])
 refine wpAnyH_ready (rs := [14]) (by kernel_rfl) (by simp) ?_
 refine arc1 none fun K hK => ?_
 obtain ⟨r0, r1, r2, r3, r4, r5, r6, r7⟩ := kB.c8
 have fr0 := kB.free 0
 have fr1 := kB.free 1
 have fr2 := kB.free 2
 have fr3 := kB.free 3
 have fr4 := kB.free 4
 have fr5 := kB.free 5
 have fr6 := kB.free 6
 have fr7 := kB.free 7
 have zR := kB.lt
 have H1 := Lib.hid (kB.set8 (.int .i64 z.b0) (.int .i64 z.b1) (.int .i64 z.w0) (.int .i64 z.w1) (.int .i64 z.q0) (.int .i64 z.q1) (.int .i64 z.s0) (.int .i64 z.s1))
 have H2 := Lib.hid (kD.other8 (c := bB) (Ne.symm hne) (.int .i64 z.b0) (.int .i64 z.b1) (.int .i64 z.w0) (.int .i64 z.w1) (.int .i64 z.q0) (.int .i64 z.q1) (.int .i64 z.s0) (.int .i64 z.s1))
 have H3 := Lib.hid (below_set8 hH zB (.int .i64 z.b0) (.int .i64 z.b1) (.int .i64 z.w0) (.int .i64 z.w1) (.int .i64 z.q0) (.int .i64 z.q1) (.int .i64 z.s0) (.int .i64 z.s1))
 clear hH
 go_simp
 refine hK.out _ _ ?_ (fun hH => ?_)
 · exact H3.out
 clear r0 r1 r2 r3 r4 r5 r6 r7 fr0 fr1 fr2 fr3 fr4 fr5 fr6 fr7 zR
 replace kB := H1.out
 replace kD := H2.out
 clear H1 H2 H3
 obtain ⟨Wn, hWn⟩ : ∃ V, Blk.wld kB = V := ⟨_, rfl⟩
 simp only [Blk.wld] at hWn
 rw [hWn] at hH kB kD ⊢
 clear hWn
 clear hK K
 (try simp only [cq])
 refine wpAnyH_ready (rs := [15]) (by kernel_rfl) (by simp) ?_
 refine arc1 none fun K hK => ?_
 obtain ⟨r0, r1, r2, r3, r4, r5⟩ := kD.c6
 have fr0 := kD.free 0
 have fr1 := kD.free 1
 have fr2 := kD.free 2
 have fr3 := kD.free 3
 have fr4 := kD.free 4
 have fr5 := kD.free 5
 have zR := kD.lt
 have H1 := Lib.hid (kD.set6 (.int .i64 c0) (.int .i64 c1) (.int .i64 f0) (.int .i64 f1) (.int .i64 wa) (.bool cl))
 have H2 := Lib.hid ((((((kB.other ⟨bD, 0, none⟩ (.int .i64 c0) hne).other ⟨bD, 1, none⟩ (.int .i64 c1) hne).other ⟨bD, 2, none⟩ (.int .i64 f0) hne).other ⟨bD, 3, none⟩ (.int .i64 f1) hne).other ⟨bD, 4, none⟩ (.int .i64 wa) hne).other ⟨bD, 5, none⟩ (.bool cl) hne)
 have H3 := Lib.hid ((((((hH.setCell (p := ⟨bD, 0, none⟩) zD (.int .i64 c0)).setCell (p := ⟨bD, 1, none⟩) zD (.int .i64 c1)).setCell (p := ⟨bD, 2, none⟩) zD (.int .i64 f0)).setCell (p := ⟨bD, 3, none⟩) zD (.int .i64 f1)).setCell (p := ⟨bD, 4, none⟩) zD (.int .i64 wa)).setCell (p := ⟨bD, 5, none⟩) zD (.bool cl))
 clear hH
 go_simp
 refine hK.out _ _ ?_ (fun hH => ?_)
 · exact H3.out
 clear r0 r1 r2 r3 r4 r5 fr0 fr1 fr2 fr3 fr4 fr5 zR
 replace kD := H1.out
 replace kB := H2.out
 clear H1 H2 H3
 obtain ⟨Wn, hWn⟩ : ∃ V, Blk.wld kB = V := ⟨_, rfl⟩
 simp only [Blk.wld] at hWn
 rw [hWn] at hH kB kD ⊢
 clear hWn
 clear hK K
 (try simp only [cq])
 refine wpAnyH_done (by kernel_rfl) ?_ _
 (try dsimp only [Act.put])
 (try simp only [cq])
 go_wp2_with fail
 go_meet
 exact ⟨bB, bD, z, HZ.out, rfl, rfl, zB, zD, hne, kB, kD, hH⟩
 }
 refine arc (some 14) (fun K hK => ?_) ?_
 {
 have zz : B3 ≤ _ := Nat.le_trans zB3 hH.size
 (try (have zx := kB.lt))
 go_simp
 first | refine oA hK ?_ (fun hH hA => ?_) | refine oD hK ?_ (fun hH hA => ?_)
 · exact hH.alloc (Nat.le_trans zB3 hH.size) _
 (try (replace kB := kB.alloc (.cells #[.int .i64 0, .int .i64 0, .int .i64 0, .int .i64 0, .int .i64 0, .bool false] 30)))
 have kD := hA
 clear hA
 obtain ⟨bD, hbD⟩ : ∃ b, Blk.num kD = b := ⟨_, rfl⟩
 obtain ⟨Wn, hWn⟩ : ∃ V, Blk.wld kD = V := ⟨_, rfl⟩
 simp only [Blk.num] at hbD
 simp only [Blk.wld] at hWn
 rw [hWn] at hH kD ⊢
 (try rw [hWn] at kB)
 rw [hbD] at kD ⊢
 replace zz : B3 ≤ bD := by rw [← hbD]; exact zz
 (try (replace zx : bB < bD := by rw [← hbD]; exact zx))
 have zD := zz
 clear zz hbD hWn
 (try (have hne : bB ≠ bD := by omega))
 clear hK K
 (try simp only [cq])
 refine wpAnyH_ready (rs := [6]) (by kernel_rfl) (by simp) ?_
 refine arc1 (some 40) fun K hK => ?_
 go_simp
 (refine (HL.out _ (jB.trans (hH.mono zwB))).mono ?_; rintro e w' ⟨z, hz, rfl, hb⟩; have HZ := Lib.hid hz; clear hz)
 refine hK.out _ _ ?_ (fun hH => ?_)
 · (exact hH.trans (hb.mono (by have := hH.size; omega)))
 (try (replace kB := kB.call hb))
 (try (replace kD := kD.call hb))
 clear hb
 clear hK K
 (try simp only [cq])
 refine wpAnyH_ready (rs := [14]) (by kernel_rfl) (by simp) ?_
 refine arc1 none fun K hK => ?_
 obtain ⟨r0, r1, r2, r3, r4, r5, r6, r7⟩ := kB.c8
 have fr0 := kB.free 0
 have fr1 := kB.free 1
 have fr2 := kB.free 2
 have fr3 := kB.free 3
 have fr4 := kB.free 4
 have fr5 := kB.free 5
 have fr6 := kB.free 6
 have fr7 := kB.free 7
 have zR := kB.lt
 have H1 := Lib.hid (kB.set8 (.int .i64 z.b0) (.int .i64 z.b1) (.int .i64 z.w0) (.int .i64 z.w1) (.int .i64 z.q0) (.int .i64 z.q1) (.int .i64 z.s0) (.int .i64 z.s1))
 have H2 := Lib.hid (kD.other8 (c := bB) (Ne.symm hne) (.int .i64 z.b0) (.int .i64 z.b1) (.int .i64 z.w0) (.int .i64 z.w1) (.int .i64 z.q0) (.int .i64 z.q1) (.int .i64 z.s0) (.int .i64 z.s1))
 have H3 := Lib.hid (below_set8 hH zB (.int .i64 z.b0) (.int .i64 z.b1) (.int .i64 z.w0) (.int .i64 z.w1) (.int .i64 z.q0) (.int .i64 z.q1) (.int .i64 z.s0) (.int .i64 z.s1))
 clear hH
 go_simp
 refine hK.out _ _ ?_ (fun hH => ?_)
 · exact H3.out
 clear r0 r1 r2 r3 r4 r5 r6 r7 fr0 fr1 fr2 fr3 fr4 fr5 fr6 fr7 zR
 replace kB := H1.out
 replace kD := H2.out
 clear H1 H2 H3
 obtain ⟨Wn, hWn⟩ : ∃ V, Blk.wld kB = V := ⟨_, rfl⟩
 simp only [Blk.wld] at hWn
 rw [hWn] at hH kB kD ⊢
 clear hWn
 clear hK K
 (try simp only [cq])
 refine wpAnyH_ready (rs := [15]) (by kernel_rfl) (by simp) ?_
 refine arc1 none fun K hK => ?_
 obtain ⟨r0, r1, r2, r3, r4, r5⟩ := kD.c6
 have fr0 := kD.free 0
 have fr1 := kD.free 1
 have fr2 := kD.free 2
 have fr3 := kD.free 3
 have fr4 := kD.free 4
 have fr5 := kD.free 5
 have zR := kD.lt
 have H1 := Lib.hid (kD.set6 (.int .i64 c0) (.int .i64 c1) (.int .i64 f0) (.int .i64 f1) (.int .i64 wa) (.bool cl))
 have H2 := Lib.hid ((((((kB.other ⟨bD, 0, none⟩ (.int .i64 c0) hne).other ⟨bD, 1, none⟩ (.int .i64 c1) hne).other ⟨bD, 2, none⟩ (.int .i64 f0) hne).other ⟨bD, 3, none⟩ (.int .i64 f1) hne).other ⟨bD, 4, none⟩ (.int .i64 wa) hne).other ⟨bD, 5, none⟩ (.bool cl) hne)
 have H3 := Lib.hid ((((((hH.setCell (p := ⟨bD, 0, none⟩) zD (.int .i64 c0)).setCell (p := ⟨bD, 1, none⟩) zD (.int .i64 c1)).setCell (p := ⟨bD, 2, none⟩) zD (.int .i64 f0)).setCell (p := ⟨bD, 3, none⟩) zD (.int .i64 f1)).setCell (p := ⟨bD, 4, none⟩) zD (.int .i64 wa)).setCell (p := ⟨bD, 5, none⟩) zD (.bool cl))
 clear hH
 go_simp
 refine hK.out _ _ ?_ (fun hH => ?_)
 · exact H3.out
 clear r0 r1 r2 r3 r4 r5 fr0 fr1 fr2 fr3 fr4 fr5 zR
 replace kD := H1.out
 replace kB := H2.out
 clear H1 H2 H3
 obtain ⟨Wn, hWn⟩ : ∃ V, Blk.wld kB = V := ⟨_, rfl⟩
 simp only [Blk.wld] at hWn
 rw [hWn] at hH kB kD ⊢
 clear hWn
 clear hK K
 (try simp only [cq])
 refine wpAnyH_done (by kernel_rfl) ?_ _
 (try dsimp only [Act.put])
 (try simp only [cq])
 go_wp2_with fail
 go_meet
 exact ⟨bB, bD, z, HZ.out, rfl, rfl, zB, zD, hne, kB, kD, hH⟩
 }
 exact AllReadyH.nil
 }
 refine arc (some 14) (fun K hK => ?_) ?_
 {
 have zz : B3 ≤ _ := Nat.le_trans zB3 hH.size
 (try (have zx := kB.lt))
 go_simp
 first | refine oA hK ?_ (fun hH hA => ?_) | refine oD hK ?_ (fun hH hA => ?_)
 · exact hH.alloc (Nat.le_trans zB3 hH.size) _
 (try (replace kB := kB.alloc (.cells #[.int .i64 0, .int .i64 0, .int .i64 0, .int .i64 0, .int .i64 0, .bool false] 30)))
 have kD := hA
 clear hA
 obtain ⟨bD, hbD⟩ : ∃ b, Blk.num kD = b := ⟨_, rfl⟩
 obtain ⟨Wn, hWn⟩ : ∃ V, Blk.wld kD = V := ⟨_, rfl⟩
 simp only [Blk.num] at hbD
 simp only [Blk.wld] at hWn
 rw [hWn] at hH kD ⊢
 (try rw [hWn] at kB)
 rw [hbD] at kD ⊢
 replace zz : B3 ≤ bD := by rw [← hbD]; exact zz
 (try (replace zx : bB < bD := by rw [← hbD]; exact zx))
 have zD := zz
 clear zz hbD hWn
 (try (have hne : bB ≠ bD := by omega))
 clear hK K
 (try simp only [cq])
 refine wpAnyH_ready (rs := [6, 12]) (by kernel_rfl) (by simp) ?_
 refine arc (some 40) (fun K hK => ?_) ?_
 {
 go_simp
 (refine (HL.out _ (jB.trans (hH.mono zwB))).mono ?_; rintro e w' ⟨z, hz, rfl, hb⟩; have HZ := Lib.hid hz; clear hz)
 refine hK.out _ _ ?_ (fun hH => ?_)
 · (exact hH.trans (hb.mono (by have := hH.size; omega)))
 (try (replace kB := kB.call hb))
 (try (replace kD := kD.call hb))
 clear hb
 clear hK K
 (try simp only [cq])
 refine wpAnyH_ready (rs := [12]) (by kernel_rfl) (by simp) ?_
 refine arc1 (some 13) fun K hK => ?_
 have zz : B3 ≤ _ := Nat.le_trans zB3 hH.size
 (try (have zx := kD.lt))
 go_simp
 first | refine oA hK ?_ (fun hH hA => ?_) | refine oD hK ?_ (fun hH hA => ?_)
 · exact hH.alloc (Nat.le_trans zB3 hH.size) _
 (try (replace kD := kD.alloc (.cells #[.int .i64 0, .int .i64 0, .int .i64 0, .int .i64 0, .int .i64 0, .int .i64 0, .int .i64 0, .int .i64 0] 28)))
 have kB := hA
 clear hA
 obtain ⟨bB, hbB⟩ : ∃ b, Blk.num kB = b := ⟨_, rfl⟩
 obtain ⟨Wn, hWn⟩ : ∃ V, Blk.wld kB = V := ⟨_, rfl⟩
 simp only [Blk.num] at hbB
 simp only [Blk.wld] at hWn
 rw [hWn] at hH kB ⊢
 (try rw [hWn] at kD)
 rw [hbB] at kB ⊢
 replace zz : B3 ≤ bB := by rw [← hbB]; exact zz
 (try (replace zx : bD < bB := by rw [← hbB]; exact zx))
 have zB := zz
 clear zz hbB hWn
 (try (have hne : bB ≠ bD := by omega))
 clear hK K
 (try simp only [cq])
 refine wpAnyH_ready (rs := [14]) (by kernel_rfl) (by simp) ?_
 refine arc1 none fun K hK => ?_
 obtain ⟨r0, r1, r2, r3, r4, r5, r6, r7⟩ := kB.c8
 have fr0 := kB.free 0
 have fr1 := kB.free 1
 have fr2 := kB.free 2
 have fr3 := kB.free 3
 have fr4 := kB.free 4
 have fr5 := kB.free 5
 have fr6 := kB.free 6
 have fr7 := kB.free 7
 have zR := kB.lt
 have H1 := Lib.hid (kB.set8 (.int .i64 z.b0) (.int .i64 z.b1) (.int .i64 z.w0) (.int .i64 z.w1) (.int .i64 z.q0) (.int .i64 z.q1) (.int .i64 z.s0) (.int .i64 z.s1))
 have H2 := Lib.hid (kD.other8 (c := bB) (Ne.symm hne) (.int .i64 z.b0) (.int .i64 z.b1) (.int .i64 z.w0) (.int .i64 z.w1) (.int .i64 z.q0) (.int .i64 z.q1) (.int .i64 z.s0) (.int .i64 z.s1))
 have H3 := Lib.hid (below_set8 hH zB (.int .i64 z.b0) (.int .i64 z.b1) (.int .i64 z.w0) (.int .i64 z.w1) (.int .i64 z.q0) (.int .i64 z.q1) (.int .i64 z.s0) (.int .i64 z.s1))
 clear hH
 go_simp
 refine hK.out _ _ ?_ (fun hH => ?_)
 · exact H3.out
 clear r0 r1 r2 r3 r4 r5 r6 r7 fr0 fr1 fr2 fr3 fr4 fr5 fr6 fr7 zR
 replace kB := H1.out
 replace kD := H2.out
 clear H1 H2 H3
 obtain ⟨Wn, hWn⟩ : ∃ V, Blk.wld kB = V := ⟨_, rfl⟩
 simp only [Blk.wld] at hWn
 rw [hWn] at hH kB kD ⊢
 clear hWn
 clear hK K
 (try simp only [cq])
 refine wpAnyH_ready (rs := [15]) (by kernel_rfl) (by simp) ?_
 refine arc1 none fun K hK => ?_
 obtain ⟨r0, r1, r2, r3, r4, r5⟩ := kD.c6
 have fr0 := kD.free 0
 have fr1 := kD.free 1
 have fr2 := kD.free 2
 have fr3 := kD.free 3
 have fr4 := kD.free 4
 have fr5 := kD.free 5
 have zR := kD.lt
 have H1 := Lib.hid (kD.set6 (.int .i64 c0) (.int .i64 c1) (.int .i64 f0) (.int .i64 f1) (.int .i64 wa) (.bool cl))
 have H2 := Lib.hid ((((((kB.other ⟨bD, 0, none⟩ (.int .i64 c0) hne).other ⟨bD, 1, none⟩ (.int .i64 c1) hne).other ⟨bD, 2, none⟩ (.int .i64 f0) hne).other ⟨bD, 3, none⟩ (.int .i64 f1) hne).other ⟨bD, 4, none⟩ (.int .i64 wa) hne).other ⟨bD, 5, none⟩ (.bool cl) hne)
 have H3 := Lib.hid ((((((hH.setCell (p := ⟨bD, 0, none⟩) zD (.int .i64 c0)).setCell (p := ⟨bD, 1, none⟩) zD (.int .i64 c1)).setCell (p := ⟨bD, 2, none⟩) zD (.int .i64 f0)).setCell (p := ⟨bD, 3, none⟩) zD (.int .i64 f1)).setCell (p := ⟨bD, 4, none⟩) zD (.int .i64 wa)).setCell (p := ⟨bD, 5, none⟩) zD (.bool cl))
 clear hH
 go_simp
 refine hK.out _ _ ?_ (fun hH => ?_)
 · exact H3.out
 clear r0 r1 r2 r3 r4 r5 fr0 fr1 fr2 fr3 fr4 fr5 zR
 replace kD := H1.out
 replace kB := H2.out
 clear H1 H2 H3
 obtain ⟨Wn, hWn⟩ : ∃ V, Blk.wld kB = V := ⟨_, rfl⟩
 simp only [Blk.wld] at hWn
 rw [hWn] at hH kB kD ⊢
 clear hWn
 clear hK K
 (try simp only [cq])
 refine wpAnyH_done (by kernel_rfl) ?_ _
 (try dsimp only [Act.put])
 (try simp only [cq])
 go_wp2_with fail
 go_meet
 exact ⟨bB, bD, z, HZ.out, rfl, rfl, zB, zD, hne, kB, kD, hH⟩
 }
 refine arc (some 13) (fun K hK => ?_) ?_
 {
 have zz : B3 ≤ _ := Nat.le_trans zB3 hH.size
 (try (have zx := kD.lt))
 go_simp
 first | refine oA hK ?_ (fun hH hA => ?_) | refine oD hK ?_ (fun hH hA => ?_)
 · exact hH.alloc (Nat.le_trans zB3 hH.size) _
 (try (replace kD := kD.alloc (.cells #[.int .i64 0, .int .i64 0, .int .i64 0, .int .i64 0, .int .i64 0, .int .i64 0, .int .i64 0, .int .i64 0] 28)))
 have kB := hA
 clear hA
 obtain ⟨bB, hbB⟩ : ∃ b, Blk.num kB = b := ⟨_, rfl⟩
 obtain ⟨Wn, hWn⟩ : ∃ V, Blk.wld kB = V := ⟨_, rfl⟩
 simp only [Blk.num] at hbB
 simp only [Blk.wld] at hWn
 rw [hWn] at hH kB ⊢
 (try rw [hWn] at kD)
 rw [hbB] at kB ⊢
 replace zz : B3 ≤ bB := by rw [← hbB]; exact zz
 (try (replace zx : bD < bB := by rw [← hbB]; exact zx))
 have zB := zz
 clear zz hbB hWn
 (try (have hne : bB ≠ bD := by omega))
 clear hK K
 (try simp only [cq])
 refine wpAnyH_ready (rs := [6]) (by kernel_rfl) (by simp) ?_
 refine arc1 (some 40) fun K hK => ?_
 go_simp
 (refine (HL.out _ (jB.trans (hH.mono zwB))).mono ?_; rintro e w' ⟨z, hz, rfl, hb⟩; have HZ := Lib.hid hz; clear hz)
 refine hK.out _ _ ?_ (fun hH => ?_)
 · (exact hH.trans (hb.mono (by have := hH.size; omega)))
 (try (replace kB := kB.call hb))
 (try (replace kD := kD.call hb))
 clear hb
 clear hK K
 (try simp only [cq])
 refine wpAnyH_ready (rs := [14]) (by kernel_rfl) (by simp) ?_
 refine arc1 none fun K hK => ?_
 obtain ⟨r0, r1, r2, r3, r4, r5, r6, r7⟩ := kB.c8
 have fr0 := kB.free 0
 have fr1 := kB.free 1
 have fr2 := kB.free 2
 have fr3 := kB.free 3
 have fr4 := kB.free 4
 have fr5 := kB.free 5
 have fr6 := kB.free 6
 have fr7 := kB.free 7
 have zR := kB.lt
 have H1 := Lib.hid (kB.set8 (.int .i64 z.b0) (.int .i64 z.b1) (.int .i64 z.w0) (.int .i64 z.w1) (.int .i64 z.q0) (.int .i64 z.q1) (.int .i64 z.s0) (.int .i64 z.s1))
 have H2 := Lib.hid (kD.other8 (c := bB) (Ne.symm hne) (.int .i64 z.b0) (.int .i64 z.b1) (.int .i64 z.w0) (.int .i64 z.w1) (.int .i64 z.q0) (.int .i64 z.q1) (.int .i64 z.s0) (.int .i64 z.s1))
 have H3 := Lib.hid (below_set8 hH zB (.int .i64 z.b0) (.int .i64 z.b1) (.int .i64 z.w0) (.int .i64 z.w1) (.int .i64 z.q0) (.int .i64 z.q1) (.int .i64 z.s0) (.int .i64 z.s1))
 clear hH
 go_simp
 refine hK.out _ _ ?_ (fun hH => ?_)
 · exact H3.out
 clear r0 r1 r2 r3 r4 r5 r6 r7 fr0 fr1 fr2 fr3 fr4 fr5 fr6 fr7 zR
 replace kB := H1.out
 replace kD := H2.out
 clear H1 H2 H3
 obtain ⟨Wn, hWn⟩ : ∃ V, Blk.wld kB = V := ⟨_, rfl⟩
 simp only [Blk.wld] at hWn
 rw [hWn] at hH kB kD ⊢
 clear hWn
 clear hK K
 (try simp only [cq])
 refine wpAnyH_ready (rs := [15]) (by kernel_rfl) (by simp) ?_
 refine arc1 none fun K hK => ?_
 obtain ⟨r0, r1, r2, r3, r4, r5⟩ := kD.c6
 have fr0 := kD.free 0
 have fr1 := kD.free 1
 have fr2 := kD.free 2
 have fr3 := kD.free 3
 have fr4 := kD.free 4
 have fr5 := kD.free 5
 have zR := kD.lt
 have H1 := Lib.hid (kD.set6 (.int .i64 c0) (.int .i64 c1) (.int .i64 f0) (.int .i64 f1) (.int .i64 wa) (.bool cl))
 have H2 := Lib.hid ((((((kB.other ⟨bD, 0, none⟩ (.int .i64 c0) hne).other ⟨bD, 1, none⟩ (.int .i64 c1) hne).other ⟨bD, 2, none⟩ (.int .i64 f0) hne).other ⟨bD, 3, none⟩ (.int .i64 f1) hne).other ⟨bD, 4, none⟩ (.int .i64 wa) hne).other ⟨bD, 5, none⟩ (.bool cl) hne)
 have H3 := Lib.hid ((((((hH.setCell (p := ⟨bD, 0, none⟩) zD (.int .i64 c0)).setCell (p := ⟨bD, 1, none⟩) zD (.int .i64 c1)).setCell (p := ⟨bD, 2, none⟩) zD (.int .i64 f0)).setCell (p := ⟨bD, 3, none⟩) zD (.int .i64 f1)).setCell (p := ⟨bD, 4, none⟩) zD (.int .i64 wa)).setCell (p := ⟨bD, 5, none⟩) zD (.bool cl))
 clear hH
 go_simp
 refine hK.out _ _ ?_ (fun hH => ?_)
 · exact H3.out
 clear r0 r1 r2 r3 r4 r5 fr0 fr1 fr2 fr3 fr4 fr5 zR
 replace kD := H1.out
 replace kB := H2.out
 clear H1 H2 H3
 obtain ⟨Wn, hWn⟩ : ∃ V, Blk.wld kB = V := ⟨_, rfl⟩
 simp only [Blk.wld] at hWn
 rw [hWn] at hH kB kD ⊢
 clear hWn
 clear hK K
 (try simp only [cq])
 refine wpAnyH_done (by kernel_rfl) ?_ _
 (try dsimp only [Act.put])
 (try simp only [cq])
 go_wp2_with fail
 go_meet
 exact ⟨bB, bD, z, HZ.out, rfl, rfl, zB, zD, hne, kB, kD, hH⟩
 }
 exact AllReadyH.nil
 }
 exact AllReadyH.nil )
  case rest =>
    obtain ⟨bB, bD, z, hz, rfl, rfl, zB, zD, hne, jB2, jD, hb⟩ := hcut
    have zB4 := HB3.out
    rw [← zB4] at hb zB zD
    clear zB4 HB3 zB3 zwB
    go_upto_region 8 with fail
    have zL3 := jL.lt
    have zV3 := jV.lt
    have zA3 := jA.lt
    have zw3 := jB.size
    have hF0 : FlAt w l va vcap (some ⟨b, o, none⟩) n dcap j (iceAt l d x j) (d j).c0 (d j).c1 (d j).f0 (d j).f1 (d j).cl w.heap.size bB bD (w.heap.size + 1 + 1) (w.heap.size + 1 + 1 + 1) wc := by
      rw [← hz, HK.out]
      exact ⟨bwS jB (Nat.le_refl _) hb, jL.call hb, jB2, ⟨wa, jD⟩, jV.call hb, jA.call hb⟩
    have zbD : bD < wc.heap.size := jD.lt
    obtain ⟨bF, hbF⟩ : ∃ q, wc.heap.size = q := ⟨_, rfl⟩
    have zF : bF ≠ bD := by omega
    have hF1 : FlAt w l va vcap (some ⟨b, o, none⟩) n dcap j (iceAt l d x j) (d j).c0 (d j).c1 (d j).f0 (d j).f1 (d j).cl w.heap.size bB bD (w.heap.size + 1 + 1) (w.heap.size + 1 + 1 + 1) (wc.alloc (.cells #[.func (.func 89) #[] #[.pointer (some ⟨bD, 0, none⟩), .pointer (some ⟨w.heap.size, 0, none⟩), .pointer (some ⟨bB, 0, none⟩), .pointer (some ⟨w.heap.size + 1 + 1, 0, none⟩), .pointer (some ⟨w.heap.size + 1 + 1 + 1, 0, none⟩)]] 53)) := ⟨bwA hF0.old (by have := hF0.old.size; omega) _, hF0.law.alloc _, hF0.ice.alloc _, hF0.day.imp fun _ h => h.alloc _, hF0.days.alloc _, hF0.at_.alloc _⟩
    have jF := Blk.new wc #[.func (.func 89) #[] #[.pointer (some ⟨bD, 0, none⟩), .pointer (some ⟨w.heap.size, 0, none⟩), .pointer (some ⟨bB, 0, none⟩), .pointer (some ⟨w.heap.size + 1 + 1, 0, none⟩), .pointer (some ⟨w.heap.size + 1 + 1 + 1, 0, none⟩)]] 53
    rw [hbF] at jF
    have HD1 := Lib.hid (show ∀ (water : Int), 0 ≤ water → water ≤ 200 → ∀ W, FlAt w l va vcap (some ⟨b, o, none⟩) n dcap j (iceAt l d x j) (d j).c0 (d j).c1 (d j).f0 (d j).f1 (d j).cl w.heap.size bB bD (w.heap.size + 1 + 1) (w.heap.size + 1 + 1 + 1) W ∧ Blk W bF #[.func (.func 89) #[] #[.pointer (some ⟨bD, 0, none⟩), .pointer (some ⟨w.heap.size, 0, none⟩), .pointer (some ⟨bB, 0, none⟩), .pointer (some ⟨w.heap.size + 1 + 1, 0, none⟩), .pointer (some ⟨w.heap.size + 1 + 1 + 1, 0, none⟩)]] 53 → Calls Try.prog 89 #[.int .i64 water, .pointer (some ⟨bD, 0, none⟩), .pointer (some ⟨w.heap.size, 0, none⟩), .pointer (some ⟨bB, 0, none⟩), .pointer (some ⟨w.heap.size + 1 + 1, 0, none⟩), .pointer (some ⟨w.heap.size + 1 + 1 + 1, 0, none⟩)] W fun e w' => e = .returned (.bool ((iceAt l (wet d j water) x n).q1 == 0)) ∧ FlAt w l va vcap (some ⟨b, o, none⟩) n dcap j (iceAt l d x j) (d j).c0 (d j).c1 (d j).f0 (d j).f1 (d j).cl w.heap.size bB bD (w.heap.size + 1 + 1) (w.heap.size + 1 + 1 + 1) w' ∧ Blk w' bF #[.func (.func 89) #[] #[.pointer (some ⟨bD, 0, none⟩), .pointer (some ⟨w.heap.size, 0, none⟩), .pointer (some ⟨bB, 0, none⟩), .pointer (some ⟨w.heap.size + 1 + 1, 0, none⟩), .pointer (some ⟨w.heap.size + 1 + 1 + 1, 0, none⟩)]] 53 from fun water g0 g1 W hW =>
      (HDr.out w.heap.size bB bD (w.heap.size + 1 + 1) (w.heap.size + 1 + 1 + 1) (by omega) (by omega) hne (by omega) (by omega) water g0 g1 W hW.1).mono fun e w' ⟨he, h1, h2⟩ => ⟨he, h1, h2 _ _ _ zF hW.2⟩)
    have HBe := Lib.hid (show ∀ W, FlAt w l va vcap (some ⟨b, o, none⟩) n dcap j (iceAt l d x j) (d j).c0 (d j).c1 (d j).f0 (d j).f1 (d j).cl w.heap.size bB bD (w.heap.size + 1 + 1) (w.heap.size + 1 + 1 + 1) W ∧ Blk W bF #[.func (.func 89) #[] #[.pointer (some ⟨bD, 0, none⟩), .pointer (some ⟨w.heap.size, 0, none⟩), .pointer (some ⟨bB, 0, none⟩), .pointer (some ⟨w.heap.size + 1 + 1, 0, none⟩), .pointer (some ⟨w.heap.size + 1 + 1 + 1, 0, none⟩)]] 53 → Below w.heap.size w W ∧ Blk W bF #[.func (.func 89) #[] #[.pointer (some ⟨bD, 0, none⟩), .pointer (some ⟨w.heap.size, 0, none⟩), .pointer (some ⟨bB, 0, none⟩), .pointer (some ⟨w.heap.size + 1 + 1, 0, none⟩), .pointer (some ⟨w.heap.size + 1 + 1 + 1, 0, none⟩)]] 53 from fun W h => ⟨h.1.old, h.2⟩)
    have hI : FlAt w l va vcap (some ⟨b, o, none⟩) n dcap j (iceAt l d x j) (d j).c0 (d j).c1 (d j).f0 (d j).f1 (d j).cl w.heap.size bB bD (w.heap.size + 1 + 1) (w.heap.size + 1 + 1 + 1) _ ∧ Blk _ bF #[.func (.func 89) #[] #[.pointer (some ⟨bD, 0, none⟩), .pointer (some ⟨w.heap.size, 0, none⟩), .pointer (some ⟨bB, 0, none⟩), .pointer (some ⟨w.heap.size + 1 + 1, 0, none⟩), .pointer (some ⟨w.heap.size + 1 + 1 + 1, 0, none⟩)]] 53 := ⟨hF1, jF⟩
    clear hF0 hF1 jF jB2 jD hb jL jX jV jA jB hcj HDr HL S1 hz zbD
    obtain ⟨I, hIe⟩ : ∃ I : World → Prop, I = (fun W => FlAt w l va vcap (some ⟨b, o, none⟩) n dcap j (iceAt l d x j) (d j).c0 (d j).c1 (d j).f0 (d j).f1 (d j).cl w.heap.size bB bD (w.heap.size + 1 + 1) (w.heap.size + 1 + 1 + 1) W ∧ Blk W bF #[.func (.func 89) #[] #[.pointer (some ⟨bD, 0, none⟩), .pointer (some ⟨w.heap.size, 0, none⟩), .pointer (some ⟨bB, 0, none⟩), .pointer (some ⟨w.heap.size + 1 + 1, 0, none⟩), .pointer (some ⟨w.heap.size + 1 + 1 + 1, 0, none⟩)]] 53) := ⟨_, rfl⟩
    have hI2 : I (wc.alloc (.cells #[.func (.func 89) #[] #[.pointer (some ⟨bD, 0, none⟩), .pointer (some ⟨w.heap.size, 0, none⟩), .pointer (some ⟨bB, 0, none⟩), .pointer (some ⟨w.heap.size + 1 + 1, 0, none⟩), .pointer (some ⟨w.heap.size + 1 + 1 + 1, 0, none⟩)]] 53)) := by rw [hIe]; exact hI
    have HD2 := Lib.hid (show ∀ (water : Int), 0 ≤ water → water ≤ 200 → ∀ W, I W → Calls Try.prog 89 #[.int .i64 water, .pointer (some ⟨bD, 0, none⟩), .pointer (some ⟨w.heap.size, 0, none⟩), .pointer (some ⟨bB, 0, none⟩), .pointer (some ⟨w.heap.size + 1 + 1, 0, none⟩), .pointer (some ⟨w.heap.size + 1 + 1 + 1, 0, none⟩)] W fun e w' => e = .returned (.bool ((iceAt l (wet d j water) x n).q1 == 0)) ∧ I w' by rw [hIe]; exact HD1.out)
    have HB2 := Lib.hid (show ∀ W, I W → Below w.heap.size w W ∧ Blk W bF #[.func (.func 89) #[] #[.pointer (some ⟨bD, 0, none⟩), .pointer (some ⟨w.heap.size, 0, none⟩), .pointer (some ⟨bB, 0, none⟩), .pointer (some ⟨w.heap.size + 1 + 1, 0, none⟩), .pointer (some ⟨w.heap.size + 1 + 1 + 1, 0, none⟩)]] 53 by rw [hIe]; exact HBe.out)
    clear hI hIe HD1 HBe
    (try simp only [hbF])
    generalize wc.alloc (.cells #[.func (.func 89) #[] #[.pointer (some ⟨bD, 0, none⟩), .pointer (some ⟨w.heap.size, 0, none⟩), .pointer (some ⟨bB, 0, none⟩), .pointer (some ⟨w.heap.size + 1 + 1, 0, none⟩), .pointer (some ⟨w.heap.size + 1 + 1 + 1, 0, none⟩)]] 53) = w5 at hI2 ⊢
    clear hbF
    go_wp2_with fail
    refine (search_in most (by omega) (.pointer (some ⟨bF, 0, none⟩)) (fun i => !((iceAt l (wet d j ((i : Int) + 1)) x n).q1 == 0)) I (fun i hi W hW => notdries_in (i : Int) _ bF I _ W (by omega) (by omega) (HB2.out W hW).2 (HD2.out ((i : Int) + 1) (by omega) (by omega) W hW)) w5 hI2).mono ?_
    rintro e w6 ⟨k, rfl, hkm, h1, h2, hI6⟩
    have h1' := Lib.hid h1
    have h2' := Lib.hid h2
    clear h1 h2
    have hB6 := HB2.out _ hI6
    by_cases hk0 : k = 0
    · subst hk0
      have f0 := hB6.2.cell1
      go_wp2_with fail
      refine (HD2.out 0 (by decide) (by decide) _ hI6).mono ?_
      rintro e w7 ⟨rfl, hI7⟩
      have hB7 := (HB2.out _ hI7).1
      cases hdry : ((iceAt l (wet d j 0) x n).q1 == 0) with
      | true =>
        have HY := Lib.hid hdry
        clear hdry
        have HR := Lib.hid (show ((iceAt l (wet d j (((0 : Nat) : Int))) x n).q1 == 0) = true ∧ (0 < most → ((iceAt l (wet d j (((0 : Nat) : Int) + 1)) x n).q1 == 0) = false) from ⟨HY.out, fun h => by simpa using h1'.out h⟩)
        go_wp2
        exact bodyPost_ret (v := .tuple #[.int .i64 0, .int .i64 0]) (by simp [results, Try.results50, go_sem]) rfl ⟨0, rfl, .inr ⟨0, rfl, Nat.zero_le _, HR.out.1, HR.out.2⟩, hB7⟩
      | false =>
        have HY := Lib.hid hdry
        clear hdry
        go_wp2
        exact bodyPost_ret (v := .tuple #[.int .i64 (-1), .int .i64 0]) (by simp [results, Try.results50, go_sem]) rfl ⟨-1, rfl, .inl ⟨rfl, HY.out⟩, hB7⟩
    · obtain ⟨q, rfl⟩ : ∃ q, k = q + 1 := ⟨k - 1, by omega⟩
      have HR := Lib.hid (show ((iceAt l (wet d j (((q + 1 : Nat) : Int))) x n).q1 == 0) = true ∧ (q + 1 < most → ((iceAt l (wet d j (((q + 1 : Nat) : Int) + 1)) x n).q1 == 0) = false) from ⟨by have := h2'.out q rfl; simpa using this, fun h => by simpa using h1'.out h⟩)
      have hq : (0 : Int) < ((q + 1 : Nat) : Int) := by omega
      obtain ⟨kk, hkk⟩ : ∃ z : Int, ((q + 1 : Nat) : Int) = z := ⟨_, rfl⟩
      rw [hkk] at hq ⊢
      have HK2 := Lib.hid hkk
      have hdec : decide (0 < kk) = true := by simp; omega
      clear hkk hk0
      go_wp2_with fail
      exact bodyPost_ret (v := .tuple #[.int .i64 kk, .int .i64 0]) (by simp [results, Try.results50, go_sem]) rfl ⟨kk, rfl, .inr ⟨q + 1, HK2.out.symm, hkm, HR.out.1, HR.out.2⟩, hB6.1⟩
end Go.Proofs.Ytkldjaofgdklbaa

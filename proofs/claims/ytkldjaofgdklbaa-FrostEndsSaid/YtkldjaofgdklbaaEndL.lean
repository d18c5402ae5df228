/-
  FrostEnds says yes: each end of what is known after a day is reached.
-/
import Derived.Test.YtkldjaofgdklbaaTail
import Derived.Test.YtkldjaofgdklbaaEnds
import Derived.Test.YtkldjaofgdklbaaNew
set_option linter.unusedVariables false
set_option linter.unusedSimpArgs false
namespace Go.Proofs.Ytkldjaofgdklbaa
open Go.RowKit

theorem wider_b (b : Bool) (x : Ic) (t : T4) (w : World) : Calls Try.prog 42 #[.agg #[.int .i64 x.b0, .int .i64 x.b1, .int .i64 x.w0, .int .i64 x.w1, .int .i64 x.q0, .int .i64 x.q1, .int .i64 x.s0, .int .i64 x.s1], .agg #[.int .i64 t.b, .int .i64 t.w, .int .i64 t.q, .int .i64 t.s], .bool b] w fun e w' => ∃ y, y = newI b x t ∧ e = .returned (.agg #[.int .i64 y.b0, .int .i64 y.b1, .int .i64 y.w0, .int .i64 y.w1, .int .i64 y.q0, .int .i64 y.q1, .int .i64 y.s0, .int .i64 y.s1]) ∧ Below w.heap.size w w' := by
  cases b with
  | true => exact (wider_first x t w).mono fun e w' h => ⟨_, rfl, h.1, h.2⟩
  | false => exact (wider_more x t w).mono fun e w' h => ⟨_, rfl, h.1, h.2⟩
theorem Ic.Kit.nn {x : Ic} (h : x.Kit) : x.Nn := ⟨h.b.1, h.b.2.1, h.w.1, h.w.2.1, h.q.1, h.q.2.1, h.s.1, h.s.2.1⟩
theorem step_zero {l : Lw} (hl : l.Kit) {x : Ic} (hx : x.Kit) {d : Dy} (hd : d.Ok) : eStep l x d = 0 := by
  unfold eStep eAll
  rw [hl.e, hx.val.e]
  unfold eDs
  simp [orE, firstNZ, hd.e]
theorem grown_some {w w' : World} (h : Below w.heap.size w w') (r : Option Nat) : w.grownBy w' r := ⟨h.os, h.tape, h.output, h.size, fun k hk _ => h.block k hk⟩
theorem cell_grown {W W' : World} {b c o : Nat} {v : Value} (g : W.grownBy W' (some b)) (h : W.cell? ⟨c, o, none⟩ = some v) (hne : c ≠ b) : W'.cell? ⟨c, o, none⟩ = some v := by
  have hlt := World.block_lt_of_cell? _ _ h
  have e := g.block c hlt (fun e => hne (by simpa using e))
  unfold World.cell? at h ⊢
  rw [e]
  exact h
theorem grownBy_drew {W W' : World} {r : Option Nat} (g : W.grownBy W' r) : W.grownBy W'.drew r := grownBy_trans g (grown_some (Below.refl _ _).drew r)
theorem grown_set8 (W : World) (b : Nat) (u0 u1 u2 u3 u4 u5 u6 u7 : Value) : W.grownBy ((((((((W.setCell ⟨b, 0, none⟩ u0).setCell ⟨b, 1, none⟩ u1).setCell ⟨b, 2, none⟩ u2).setCell ⟨b, 3, none⟩ u3).setCell ⟨b, 4, none⟩ u4).setCell ⟨b, 5, none⟩ u5).setCell ⟨b, 6, none⟩ u6).setCell ⟨b, 7, none⟩ u7) (some b) :=
  grownBy_trans (grownBy_trans (grownBy_trans (grownBy_trans (grownBy_trans (grownBy_trans (grownBy_trans (grown_set _ b 0 u0) (grown_set _ b 1 u1)) (grown_set _ b 2 u2)) (grown_set _ b 3 u3)) (grown_set _ b 4 u4)) (grown_set _ b 5 u5)) (grown_set _ b 6 u6)) (grown_set _ b 7 u7)
def SV (V W : World) : Prop := Below V.heap.size V W

set_option maxRecDepth 100000 in
set_option maxHeartbeats 16000000 in
theorem ends_law (a : Option Addr) (n0 cap : Nat) (w : World) (hn : NumsAt w a n0) :
    Calls Try.prog 6 #[.slice a n0 cap] w fun e w' => e = .returned (.bool true) ∧ Below w.heap.size w w' := by
  obtain ⟨i0, hi0, hz0, hz1, hz2⟩ := info_parts Try.infoDay
  go_enter Try.func6, Try.ntmps6
  go_wp2_with fail
  refine (newseed_at a n0 cap _ hn).mono ?_
  rintro e w1 ⟨rfl, hS, hB⟩
  clear hn
  obtain ⟨bs, hbs⟩ : ∃ b, w.heap.size = b := ⟨_, rfl⟩
  rw [hbs] at hS ⊢
  have hle : w.heap.size ≤ bs := by omega
  have HB := Lib.hid (And.intro hle hB)
  clear hbs hB hle
  have hb1 : bs < w1.heap.size := hS.choose_spec.lt
  go_wp2_with fail
  refine (frostof_in bs w1 hS).mono ?_
  rintro e w2 ⟨l, v, rfl, hl, hR, hA⟩
  clear hS
  obtain ⟨va, vcap, hvv, hz1', hz2', hz3⟩ := covAt_of_row hR
  clear hz1' hz2' hz3
  subst hvv
  go_wp2_with fail
  refine (iceof_in bs w2 hA.seed).mono ?_
  rintro e w3 ⟨x, rfl, hx, hd⟩
  replace hR := hd.row hR (by omega)
  replace hA := hA.trans hd
  clear hd
  have zA := hA.2.size
  have jL := (Blk.new w3 #[.int .i64 l.gr, .int .i64 l.la, .slice va l.n vcap, .int .i64 l.m0, .int .i64 l.m1, .int .i64 l.so, .int .i64 l.h0, .int .i64 l.h1] 26).alloc (.cells #[.int .i64 x.b0, .int .i64 x.b1, .int .i64 x.w0, .int .i64 x.w1, .int .i64 x.q0, .int .i64 x.q1, .int .i64 x.s0, .int .i64 x.s1] 28)
  have jX := Blk.new1 w3 (.cells #[.int .i64 l.gr, .int .i64 l.la, .slice va l.n vcap, .int .i64 l.m0, .int .i64 l.m1, .int .i64 l.so, .int .i64 l.h0, .int .i64 l.h1] 26) #[.int .i64 x.b0, .int .i64 x.b1, .int .i64 x.w0, .int .i64 x.w1, .int .i64 x.q0, .int .i64 x.q1, .int .i64 x.s0, .int .i64 x.s1] 28
  replace hR := (hR.alloc (.cells #[.int .i64 l.gr, .int .i64 l.la, .slice va l.n vcap, .int .i64 l.m0, .int .i64 l.m1, .int .i64 l.so, .int .i64 l.h0, .int .i64 l.h1] 26)).alloc (.cells #[.int .i64 x.b0, .int .i64 x.b1, .int .i64 x.w0, .int .i64 x.w1, .int .i64 x.q0, .int .i64 x.q1, .int .i64 x.s0, .int .i64 x.s1] 28)
  replace hA := (hA.new (.cells #[.int .i64 l.gr, .int .i64 l.la, .slice va l.n vcap, .int .i64 l.m0, .int .i64 l.m1, .int .i64 l.so, .int .i64 l.h0, .int .i64 l.h1] 26)).new (.cells #[.int .i64 x.b0, .int .i64 x.b1, .int .i64 x.w0, .int .i64 x.w1, .int .i64 x.q0, .int .i64 x.q1, .int .i64 x.s0, .int .i64 x.s1] 28)
  go_wp2_with fail
  refine (daysof_in 1 (by decide) (by decide) false bs _ hA.seed).mono ?_
  rintro e w5 ⟨vd, n, dd, rfl, hn1, hdk, hD, hd⟩
  obtain ⟨bL, hbL⟩ : ∃ b, w3.heap.size = b := ⟨_, rfl⟩
  rw [hbL] at zA jL jX
  (try rw [hbL])
  clear hbL
  replace jL := hd.blk jL (by omega)
  replace jX := hd.blk jX (by omega)
  replace hR := hd.row hR (by omega)
  replace hA := hA.trans hd
  clear hd
  have hw := HB.out.1
  have jB := Drawn.below HB.out.2 hA hw
  clear hA HB
  go_wp2_with fail
  refine (lday_any _ _ _ _).mono ?_
  rintro e w6 ⟨rfl, hb⟩
  replace jL := jL.call hb
  replace jX := jX.call hb
  replace hR := row_later hR hb
  replace hD := row_later hD hb
  replace jB := bwS jB (Nat.le_refl _) hb
  clear hb
  have hok : ∀ i, i < n + 1 → (updD dd n (Dy.mk 100 100 0 0 0 false) i).Ok := fun i hi => by
    unfold updD
    split
    · exact ⟨by decide, by decide, by decide, by decide, by decide, by decide, by decide, by decide⟩
    · exact (hdk i (by omega)).ok
  obtain ⟨d', hd'⟩ : ∃ d', updD dd n (Dy.mk 100 100 0 0 0 false) = d' := ⟨_, rfl⟩
  rw [hd'] at hok
  have HD' := Lib.hid hd'
  clear hd' hdk
  have zB := jB.size
  have zL6 := jL.lt
  have zX6 := jX.lt
  have HH := Lib.hid (And.intro (jL.alloc (.cells #[.int .i64 100, .int .i64 100, .int .i64 0, .int .i64 0, .int .i64 0, .bool false] 30)) (And.intro (jX.alloc (.cells #[.int .i64 100, .int .i64 100, .int .i64 0, .int .i64 0, .int .i64 0, .bool false] 30)) (And.intro (hR.alloc (.cells #[.int .i64 100, .int .i64 100, .int .i64 0, .int .i64 0, .int .i64 0, .bool false] 30)) (bwA jB (Nat.le_refl _) (.cells #[.int .i64 100, .int .i64 100, .int .i64 0, .int .i64 0, .int .i64 0, .bool false] 30)))))
  have HDr := Lib.hid (hD.alloc (.cells #[.int .i64 100, .int .i64 100, .int .i64 0, .int .i64 0, .int .i64 0, .bool false] 30))
  clear jL jX hR jB
  go_wp2_with (at_builtin; refine wpList_append_own_at _ rfl _ _ 38 rfl (bs + 1) 30 i0 (.agg #[.int .i64 0, .int .i64 0, .int .i64 0, .int .i64 0, .int .i64 0, .bool false]) 6 48 Try.underlying38 hi0 hz0 hz1 hz2 rfl (by decide) _ _ _ rfl (hD.alloc _) ⟨w6.heap.size, 0, none⟩ 1 1 (#[.int .i64 100, .int .i64 100, .int .i64 0, .int .i64 0, .int .i64 0, .bool false] : Array Value).toList rfl rfl (newsN _ _ _) (one6 (Dy.mk 100 100 0 0 0 false)) (by unfold maxLen; omega) (by omega) (by simp; omega) ?_; intro v' w9 hown' hgrow _ _; have kD : DaysAt w9 v' (n + 1) d' := (by refine daysAt_of_row (base := bs + 1) ?_; rw [← HD'.out, daysC_upd]; exact hown'); obtain ⟨da, dcap, rfl, hdc, _, hdd⟩ := kD; obtain ⟨db, dof, rfl, hdw⟩ := hdd (by omega); obtain ⟨q0, q1, q2, q3, q4, q5⟩ := hdw 0 (by omega); simp only [Nat.zero_mul, Nat.add_zero] at q0 q1 q2 q3 q4 q5; obtain ⟨d, hd0⟩ : ∃ d, d' 0 = d := ⟨_, rfl⟩; rw [hd0] at q0 q1 q2 q3 q4 q5; have hdo : d.Ok := hd0 ▸ hok 0 (by omega); have zq := World.block_lt_of_cell? _ _ q0; have gL := HH.out.1.grown3 hgrow (blk_row_ne2 HH.out.1 HDr.out (by decide)); have gX := HH.out.2.1.grown3 hgrow (blk_row_ne2 HH.out.2.1 HDr.out (by decide)); have gR := covAt_of_row (row_grown2 HH.out.2.2.1 HDr.out (by decide) hgrow); have gB := grown_below HH.out.2.2.2 hgrow (fun k e => by have := (HDr.out.lt k e).1; omega) (Nat.le_refl _); have jL := gL.alloc (.cells #[.int .i64 d.c0, .int .i64 d.c1, .int .i64 d.f0, .int .i64 d.f1, .int .i64 d.wa, .bool d.cl] 30); have jX := gX.alloc (.cells #[.int .i64 d.c0, .int .i64 d.c1, .int .i64 d.f0, .int .i64 d.f1, .int .i64 d.wa, .bool d.cl] 30); have jD := Blk.new w9 #[.int .i64 d.c0, .int .i64 d.c1, .int .i64 d.f0, .int .i64 d.f1, .int .i64 d.wa, .bool d.cl] 30; have kC := gR.later ((Below.refl _ _).alloc (Nat.le_refl _) (.cells #[.int .i64 d.c0, .int .i64 d.c1, .int .i64 d.f0, .int .i64 d.f1, .int .i64 d.wa, .bool d.cl] 30)); have jB := bwA gB (Nat.le_refl _) (.cells #[.int .i64 d.c0, .int .i64 d.c1, .int .i64 d.f0, .int .i64 d.f1, .int .i64 d.wa, .bool d.cl] 30); have HA := Lib.hid (And.intro jL (And.intro jX (And.intro jD (And.intro kC (And.intro jB hdo))))); obtain ⟨l0, l1, l2, l3, l4, l5, l6, l7⟩ := jL.c8; obtain ⟨x0, x1, x2, x3, x4, x5, x6, x7⟩ := jX.c8; obtain ⟨p0, p1, p2, p3, p4, p5⟩ := jD.c6; have yL := jL.lt; have yX := jX.lt; have yD := jD.lt; clear hown' hdd hdw hD hgrow hd0 hdo hok HD' gL gX gR gB jL jX jD kC jB)
  clear l0 l1 l2 l3 l4 l5 l6 l7 x0 x1 x2 x3 x4 x5 x6 x7 p0 p1 p2 p3 p4 p5 yL yX yD q0 q1 q2 q3 q4 q5 zq
  obtain ⟨jL, jX, jD, kC, jB, hdo⟩ := HA.out
  clear HA HH HDr
  obtain ⟨bD, hbD⟩ : ∃ b, w9.heap.size = b := ⟨_, rfl⟩
  rw [hbD] at jD
  (try rw [hbD])
  generalize w9.alloc (.cells #[.int .i64 d.c0, .int .i64 d.c1, .int .i64 d.f0, .int .i64 d.f1, .int .i64 d.wa, .bool d.cl] 30) = V at jL jX jD kC jB ⊢
  clear hbD
  have hE := step_zero hl hx hdo
  obtain ⟨y, hy⟩ : ∃ y, stepI l x d = y := ⟨_, rfl⟩
  have HSt : Hid (∀ W, CovAt W (.slice va l.n vcap) l.n l.D l.P0 l.P1 → Calls Try.prog 17 #[.agg #[.int .i64 l.gr, .int .i64 l.la, (.slice va l.n vcap), .int .i64 l.m0, .int .i64 l.m1, .int .i64 l.so, .int .i64 l.h0, .int .i64 l.h1], .agg #[.int .i64 x.b0, .int .i64 x.b1, .int .i64 x.w0, .int .i64 x.w1, .int .i64 x.q0, .int .i64 x.q1, .int .i64 x.s0, .int .i64 x.s1], .agg #[.int .i64 d.c0, .int .i64 d.c1, .int .i64 d.f0, .int .i64 d.f1, .int .i64 d.wa, .bool d.cl]] W fun e w' => e = .returned (.tuple #[.agg #[.int .i64 y.b0, .int .i64 y.b1, .int .i64 y.w0, .int .i64 y.w1, .int .i64 y.q0, .int .i64 y.q1, .int .i64 y.s0, .int .i64 y.s1], .int .i64 0]) ∧ Below W.heap.size W w') := Lib.hid (fun W hW => by
    have q := fStep_any l x d (.slice va l.n vcap) W hW
    rw [show stepV l x d = stepI l x d from if_pos hE, hE, hy] at q
    exact q)
  have HY := Lib.hid hy
  have HK := Lib.hid (And.intro hl (And.intro hx hdo))
  clear hy hE hdo
  refine (HSt.out _ kC).mono ?_
  rintro e w10 ⟨rfl, hb⟩
  replace jL := jL.call hb
  replace jX := jX.call hb
  replace jD := jD.call hb
  replace kC := kC.later hb
  replace jB := bwS jB (Nat.le_refl _) hb
  clear hb HSt hl hx
  go_upto_region 7 with fail
  have jY := Blk.new w10 #[.int .i64 y.b0, .int .i64 y.b1, .int .i64 y.w0, .int .i64 y.w1, .int .i64 y.q0, .int .i64 y.q1, .int .i64 y.s0, .int .i64 y.s1] 28
  replace jL := jL.alloc (.cells #[.int .i64 y.b0, .int .i64 y.b1, .int .i64 y.w0, .int .i64 y.w1, .int .i64 y.q0, .int .i64 y.q1, .int .i64 y.s0, .int .i64 y.s1] 28)
  replace jX := jX.alloc (.cells #[.int .i64 y.b0, .int .i64 y.b1, .int .i64 y.w0, .int .i64 y.w1, .int .i64 y.q0, .int .i64 y.q1, .int .i64 y.s0, .int .i64 y.s1] 28)
  replace jD := jD.alloc (.cells #[.int .i64 y.b0, .int .i64 y.b1, .int .i64 y.w0, .int .i64 y.w1, .int .i64 y.q0, .int .i64 y.q1, .int .i64 y.s0, .int .i64 y.s1] 28)
  replace kC := kC.later ((Below.refl _ _).alloc (Nat.le_refl _) (.cells #[.int .i64 y.b0, .int .i64 y.b1, .int .i64 y.w0, .int .i64 y.w1, .int .i64 y.q0, .int .i64 y.q1, .int .i64 y.s0, .int .i64 y.s1] 28))
  replace jB := bwA jB (Nat.le_refl _) (.cells #[.int .i64 y.b0, .int .i64 y.b1, .int .i64 y.w0, .int .i64 y.w1, .int .i64 y.q0, .int .i64 y.q1, .int .i64 y.s0, .int .i64 y.s1] 28)
  obtain ⟨bY, hbY⟩ : ∃ b, w10.heap.size = b := ⟨_, rfl⟩
  rw [hbY] at jY
  (try rw [hbY])
  generalize w10.alloc (.cells #[.int .i64 y.b0, .int .i64 y.b1, .int .i64 y.w0, .int .i64 y.w1, .int .i64 y.q0, .int .i64 y.q1, .int .i64 y.s0, .int .i64 y.s1] 28) = V1 at jL jX jD jY kC jB ⊢
  clear hbY
  refine wp_region_held_drew (S := (fun w' => Below V1.heap.size V1 w')) (by kernel_rfl) ?_ (fun hH => ?_)
  · (try dsimp only); (exact (Below.refl _ _).drew)
  refine tkY 0 (some 45) ?_ ?_ ?_
  rotate_left
  · intro w hS0; (try dsimp only at hS0); have kx := jX.call hS0; obtain ⟨x0, x1, x2, x3, x4, x5, x6, x7⟩ := kx.c8; have yX := kx.lt;go_simp; (try with_reducible rfl)
  (try simp only [cq])
  refine tkY 1 (some 46) ?_ ?_ ?_
  rotate_left
  · intro w hS0; (try dsimp only at hS0); have kx := jX.call hS0; obtain ⟨x0, x1, x2, x3, x4, x5, x6, x7⟩ := kx.c8; have yX := kx.lt;go_simp; (try with_reducible rfl)
  (try simp only [cq])
  refine tkY 3 (some 48) ?_ ?_ ?_
  rotate_left
  · intro w hS0; (try dsimp only at hS0); have kx := jX.call hS0; obtain ⟨x0, x1, x2, x3, x4, x5, x6, x7⟩ := kx.c8; have yX := kx.lt;go_simp; (try with_reducible rfl)
  (try simp only [cq])
  refine tkY 4 (some 49) ?_ ?_ ?_
  rotate_left
  · intro w hS0; (try dsimp only at hS0); have kx := jX.call hS0; obtain ⟨x0, x1, x2, x3, x4, x5, x6, x7⟩ := kx.c8; have yX := kx.lt;go_simp; (try with_reducible rfl)
  (try simp only [cq])
  refine tkY 6 (some 51) ?_ ?_ ?_
  rotate_left
  · intro w hS0; (try dsimp only at hS0); have kx := jX.call hS0; obtain ⟨x0, x1, x2, x3, x4, x5, x6, x7⟩ := kx.c8; have yX := kx.lt;go_simp; (try with_reducible rfl)
  (try simp only [cq])
  refine tkY 7 (some 52) ?_ ?_ ?_
  rotate_left
  · intro w hS0; (try dsimp only at hS0); have kx := jX.call hS0; obtain ⟨x0, x1, x2, x3, x4, x5, x6, x7⟩ := kx.c8; have yX := kx.lt;go_simp; (try with_reducible rfl)
  (try simp only [cq])
  refine tkY 9 (some 54) ?_ ?_ ?_
  rotate_left
  · intro w hS0; (try dsimp only at hS0); have kx := jX.call hS0; obtain ⟨x0, x1, x2, x3, x4, x5, x6, x7⟩ := kx.c8; have yX := kx.lt;go_simp; (try with_reducible rfl)
  (try simp only [cq])
  refine tkY 10 (some 55) ?_ ?_ ?_
  rotate_left
  · intro w hS0; (try dsimp only at hS0); have kx := jX.call hS0; obtain ⟨x0, x1, x2, x3, x4, x5, x6, x7⟩ := kx.c8; have yX := kx.lt;go_simp; (try with_reducible rfl)
  (try simp only [cq])
  refine wpAnyH_ready (rs := [2]) (by kernel_rfl) (by simp) ?_
  refine arc1 (some 47) fun K hK => ?_
  go_simp
  (refine (ends_any _ _ _).mono ?_; rintro e w' ⟨v0, n0, xs0, rfl, L0, _, hR, hb⟩; have I0 := ints_of_row hR; clear hR)
  refine hK.out _ _ ?_ ?_
  · (exact bwS hH (Nat.le_refl _) hb)
  (try clear hH); (try clear hb)
  intro hH
  clear hK K
  (try simp only [cq])
  refine wpAnyH_ready (rs := [5]) (by kernel_rfl) (by simp) ?_
  refine arc1 (some 50) fun K hK => ?_
  go_simp
  (refine (ends_any _ _ _).mono ?_; rintro e w' ⟨v1, n1, xs1, rfl, L1, _, hR, hb⟩; have I1 := ints_of_row hR; clear hR; replace I0 := I0.later hb)
  refine hK.out _ _ ?_ ?_
  · (exact bwS hH (Nat.le_refl _) hb)
  (try clear hH); (try clear hb)
  intro hH
  clear hK K
  (try simp only [cq])
  refine wpAnyH_ready (rs := [8]) (by kernel_rfl) (by simp) ?_
  refine arc1 (some 53) fun K hK => ?_
  go_simp
  (refine (ends_any _ _ _).mono ?_; rintro e w' ⟨v2, n2, xs2, rfl, L2, _, hR, hb⟩; have I2 := ints_of_row hR; clear hR; replace I0 := I0.later hb; replace I1 := I1.later hb)
  refine hK.out _ _ ?_ ?_
  · (exact bwS hH (Nat.le_refl _) hb)
  (try clear hH); (try clear hb)
  intro hH
  clear hK K
  (try simp only [cq])
  refine wpAnyH_ready (rs := [11]) (by kernel_rfl) (by simp) ?_
  refine arc1 (some 56) fun K hK => ?_
  go_simp
  (refine (ends_any _ _ _).mono ?_; rintro e w' ⟨v3, n3, xs3, rfl, L3, _, hR, hb⟩; have I3 := ints_of_row hR; clear hR; replace I0 := I0.later hb; replace I1 := I1.later hb; replace I2 := I2.later hb)
  refine hK.out _ _ ?_ ?_
  · (exact bwS hH (Nat.le_refl _) hb)
  (try clear hH); (try clear hb)
  intro hH
  clear hK K
  (try simp only [cq])
  refine tkY 12 (some 9) ?_ ?_ ?_
  rotate_left
  · intro w _; go_simp; (try with_reducible rfl)
  (try simp only [cq])
  refine tkY 13 (some 10) ?_ ?_ ?_
  rotate_left
  · intro w _; go_simp; (try with_reducible rfl)
  (try simp only [cq])
  refine tkY 14 (some 11) ?_ ?_ ?_
  rotate_left
  · intro w _; go_simp; (try with_reducible rfl)
  (try simp only [cq])
  refine tkY 15 (some 12) ?_ ?_ ?_
  rotate_left
  · intro w _; go_simp; (try with_reducible rfl)
  (try simp only [cq])
  refine wpAnyH_done (by kernel_rfl) ?_ _
  (try dsimp only [Act.put])
  (try simp only [cq])
  replace jL := jL.call hH
  replace jX := jX.call hH
  replace jD := jD.call hH
  replace jY := jY.call hH
  replace kC := kC.later hH
  replace jB := bwS jB (Nat.le_refl _) hH
  clear hH
  obtain ⟨V2, hVV⟩ : ∃ V2, V2 = w' := ⟨_, rfl⟩
  subst hVV
  go_upto_region 8 with fail
  refine wp_region_held_drew (S := (fun w' => Below V2.heap.size V2 w')) (by kernel_rfl) ?_ (fun hH => ?_)
  · (try dsimp only); (exact (Below.refl _ _).drew)
  refine tkY 0 (some 57) ?_ ?_ ?_
  rotate_left
  · intro w hS0; (try dsimp only at hS0); have kd := jD.call hS0; obtain ⟨p0, p1, p2, p3, p4, p5⟩ := kd.c6; have yD := kd.lt;go_simp; (try with_reducible rfl)
  (try simp only [cq])
  refine tkY 1 (some 58) ?_ ?_ ?_
  rotate_left
  · intro w hS0; (try dsimp only at hS0); have kd := jD.call hS0; obtain ⟨p0, p1, p2, p3, p4, p5⟩ := kd.c6; have yD := kd.lt;go_simp; (try with_reducible rfl)
  (try simp only [cq])
  refine tkY 3 (some 60) ?_ ?_ ?_
  rotate_left
  · intro w hS0; (try dsimp only at hS0); have kd := jD.call hS0; obtain ⟨p0, p1, p2, p3, p4, p5⟩ := kd.c6; have yD := kd.lt;go_simp; (try with_reducible rfl)
  (try simp only [cq])
  refine tkY 4 (some 61) ?_ ?_ ?_
  rotate_left
  · intro w hS0; (try dsimp only at hS0); have kd := jD.call hS0; obtain ⟨p0, p1, p2, p3, p4, p5⟩ := kd.c6; have yD := kd.lt;go_simp; (try with_reducible rfl)
  (try simp only [cq])
  refine wpAnyH_ready (rs := [2]) (by kernel_rfl) (by simp) ?_
  refine arc1 (some 59) fun K hK => ?_
  go_simp
  (refine (colds_any _ _ _).mono ?_; rintro e w' ⟨v4, n4, xs4, rfl, L4, I4, hb⟩)
  refine hK.out _ _ ?_ ?_
  · (exact bwS hH (Nat.le_refl _) hb)
  (try clear hH); (try clear hb)
  intro hH
  clear hK K
  (try simp only [cq])
  refine wpAnyH_ready (rs := [5]) (by kernel_rfl) (by simp) ?_
  refine arc1 (some 62) fun K hK => ?_
  go_simp
  (refine (ends_any _ _ _).mono ?_; rintro e w' ⟨v5, n5, xs5, rfl, L5, _, hR, hb⟩; have I5 := ints_of_row hR; clear hR; replace I4 := I4.later hb)
  refine hK.out _ _ ?_ ?_
  · (exact bwS hH (Nat.le_refl _) hb)
  (try clear hH); (try clear hb)
  intro hH
  clear hK K
  (try simp only [cq])
  refine tkY 6 (some 13) ?_ ?_ ?_
  rotate_left
  · intro w _; go_simp; (try with_reducible rfl)
  (try simp only [cq])
  refine tkY 7 (some 14) ?_ ?_ ?_
  rotate_left
  · intro w _; go_simp; (try with_reducible rfl)
  (try simp only [cq])
  refine wpAnyH_done (by kernel_rfl) ?_ _
  (try dsimp only [Act.put])
  (try simp only [cq])
  replace I0 := I0.later hH
  replace I1 := I1.later hH
  replace I2 := I2.later hH
  replace I3 := I3.later hH
  replace jL := jL.call hH
  replace jX := jX.call hH
  replace jD := jD.call hH
  replace jY := jY.call hH
  replace kC := kC.later hH
  replace jB := bwS jB (Nat.le_refl _) hH
  clear hH
  obtain ⟨V3, hVV⟩ : ∃ V3, V3 = w' := ⟨_, rfl⟩
  subst hVV
  obtain ⟨s0, t0, rfl, _, _, _⟩ := id I0
  obtain ⟨s1, t1, rfl, _, _, _⟩ := id I1
  obtain ⟨s2, t2, rfl, _, _, _⟩ := id I2
  obtain ⟨s3, t3, rfl, _, _, _⟩ := id I3
  obtain ⟨s4, t4, rfl, _, _, _⟩ := id I4
  obtain ⟨s5, t5, rfl, _, _, _⟩ := id I5
  go_upto_region 10 with fail
  have jS := Blk.new V3 #[.slice s0 n0 t0, .slice s1 n1 t1, .slice s2 n2 t2, .slice s3 n3 t3, .slice s4 n4 t4, .slice s5 n5 t5] 31
  have hal : Below V3.heap.size V3 (V3.alloc (.cells #[.slice s0 n0 t0, .slice s1 n1 t1, .slice s2 n2 t2, .slice s3 n3 t3, .slice s4 n4 t4, .slice s5 n5 t5] 31)) := (Below.refl _ _).alloc (Nat.le_refl _) _
  replace I0 := I0.later hal
  replace I1 := I1.later hal
  replace I2 := I2.later hal
  replace I3 := I3.later hal
  replace I4 := I4.later hal
  replace I5 := I5.later hal
  replace jL := jL.call hal
  replace jX := jX.call hal
  replace jD := jD.call hal
  replace jY := jY.call hal
  replace kC := kC.later hal
  replace jB := bwS jB (Nat.le_refl _) hal
  clear hal
  obtain ⟨bS, hbS⟩ : ∃ b, V3.heap.size = b := ⟨_, rfl⟩
  rw [hbS] at jS
  (try rw [hbS])
  generalize V3.alloc (.cells #[.slice s0 n0 t0, .slice s1 n1 t1, .slice s2 n2 t2, .slice s3 n3 t3, .slice s4 n4 t4, .slice s5 n5 t5] 31) = V4 at I0 I1 I2 I3 I4 I5 jL jX jD jY kC jB jS ⊢
  clear hbS
  obtain ⟨vs, ns, xs, hLs, hCh⟩ : ∃ vs ns xs, LsAt V4 bS vs ns xs ∧ Chs x d ns xs := ⟨pk6 (.slice s0 n0 t0) (.slice s1 n1 t1) (.slice s2 n2 t2) (.slice s3 n3 t3) (.slice s4 n4 t4) (.slice s5 n5 t5), pk6 n0 n1 n2 n3 n4 n5, pk6 xs0 xs1 xs2 xs3 xs4 xs5, fun k hk => by
      obtain rfl | rfl | rfl | rfl | rfl | rfl : k = 0 ∨ k = 1 ∨ k = 2 ∨ k = 3 ∨ k = 4 ∨ k = 5 := by omega
      · exact ⟨jS.cell 0 rfl, I0, L0.n1, L0.n4⟩
      · exact ⟨jS.cell 1 rfl, I1, L1.n1, L1.n4⟩
      · exact ⟨jS.cell 2 rfl, I2, L2.n1, L2.n4⟩
      · exact ⟨jS.cell 3 rfl, I3, L3.n1, L3.n4⟩
      · exact ⟨jS.cell 4 rfl, I4, L4.n1, L4.n4⟩
      · exact ⟨jS.cell 5 rfl, I5, L5.n1, L5.n4⟩, ⟨L0, L1, L2, L3, L4, L5⟩⟩
  have HL := Lib.hid hLs
  have HC := Lib.hid hCh
  have KL := Lib.hid jL
  have KD := Lib.hid jD
  have KY := Lib.hid jY
  have KC := Lib.hid kC
  have KB := Lib.hid jB
  clear I0 I1 I2 I3 I4 I5 L0 L1 L2 L3 L4 L5 hLs hCh jL jX jD jY kC jB jS
  go_wp2_with fail
  go_loopw [16, 17] (fun many i wr => ∃ k : Nat, k ≤ 6 ∧ i = .int .i64 k ∧ many = .int .i64 (prd ns k) ∧ wr = V4) (fun _ i _ => 6 - (intOf i).toNat)
  case atStart => exact ⟨0, by omega, rfl, rfl, rfl⟩
  case round =>
    obtain ⟨k, hk, rfl, rfl, rfl⟩ := hrel
    by_cases hlt : k < 6
    · have hki : (k : Int) < 6 := by omega
      obtain ⟨c0, ⟨av, cv, hvv, _, _, _⟩, hn1, hn4⟩ := HL.out k hlt
      rw [hvv] at c0
      have z0 := World.block_lt_of_cell? _ _ c0
      have hp := prd_le ns (k + 1) (fun i hi => (HC.out.n i (by omega)).2)
      have h4 : 4 ^ (k + 1) ≤ 4 ^ 6 := Nat.pow_le_pow_right (by decide) (by omega)
      have e1 : IntKind.i64.wrap ((prd ns k : Int) * (ns k : Int)) = (prd ns k : Int) * (ns k : Int) := by
        have q : ((prd ns (k + 1) : Nat) : Int) = (prd ns k : Int) * (ns k : Int) := by
          show ((prd ns k * ns k : Nat) : Int) = _
          exact Int.natCast_mul _ _
        rw [← q]
        exact IntWalk.i64_in _ (by omega)
      clear hp h4 hvv hn1 hn4
      go_wp2
      go_roundw
      case rel => exact ⟨k + 1, by omega, by go_num, by
        show _ = Value.int .i64 ((prd ns k * ns k : Nat) : Int)
        rw [Int.natCast_mul], by first | rfl | trivial⟩
      case measure => simp [intOf]; omega
    · obtain rfl : k = 6 := by omega
      clear hlt hk
      obtain ⟨M, hM⟩ : ∃ M, prd ns 6 = M := ⟨_, rfl⟩
      have hM4 : M ≤ 4096 := by
        have := prd_le ns 6 (fun i hi => (HC.out.n i hi).2)
        rw [hM] at this
        exact this
      rw [hM]
      have HM := Lib.hid hM
      clear hM
      obtain ⟨V4, hVV⟩ : ∃ V, V = wr := ⟨_, rfl⟩
      subst hVV
      have jM := Blk.new V4 #[.int .i64 0, .int .i64 0, .int .i64 0, .int .i64 0, .int .i64 0, .int .i64 0, .int .i64 0, .int .i64 0] 28
      have hF : Below V4.heap.size V4 (V4.alloc (.cells #[.int .i64 0, .int .i64 0, .int .i64 0, .int .i64 0, .int .i64 0, .int .i64 0, .int .i64 0, .int .i64 0] 28)) := (Below.refl _ _).alloc (Nat.le_refl _) _
      obtain ⟨bM, hbM⟩ : ∃ b, V4.heap.size = b := ⟨_, rfl⟩
      have hbM1 : V4.heap.size ≤ bM := by omega
      go_upto_region 16 with fail
      rw [hbM] at jM
      (try rw [hbM])
      generalize V4.alloc (.cells #[.int .i64 0, .int .i64 0, .int .i64 0, .int .i64 0, .int .i64 0, .int .i64 0, .int .i64 0, .int .i64 0] 28) = V5 at jM hF ⊢
      clear hbM
      go_wp2_with fail
      go_loopw [19] (fun sm wr => ∃ (m : Nat) (z : Ic) (u : Nat → T4), m ≤ M ∧ sm = .int .i64 m ∧ Below V4.heap.size V4 wr ∧ Blk wr bM #[.int .i64 z.b0, .int .i64 z.b1, .int .i64 z.w0, .int .i64 z.w1, .int .i64 z.q0, .int .i64 z.q1, .int .i64 z.s0, .int .i64 z.s1] 28 ∧ Acc l d ns xs m u 0 z) (fun sm _ => M - (intOf sm).toNat)
      case atStart => exact ⟨0, ⟨0, 0, 0, 0, 0, 0, 0, 0⟩, fun _ => ⟨0, 0, 0, 0⟩, by omega, rfl, hF, jM, .inl ⟨rfl, rfl⟩⟩
      case round =>
        clear hF jM V5
        obtain ⟨m, z, u0, hm, rfl, hB, jM, hAc⟩ := hrel
        by_cases hlt : m < M
        · have hmi : (m : Int) < M := by omega
          have HAc := Lib.hid hAc
          clear hAc
          go_wp2_with fail
          refine (picked_any bS vs ns xs m (by omega) _ (HL.out.later hB)).mono ?_
          rintro e w1 ⟨v, rfl, hI, hb⟩
          replace jM := jM.call hb
          replace hB := bwS hB (Nat.le_refl _) hb
          clear hb
          obtain ⟨av, cv, rfl, hc1, hc2, hc3⟩ := hI
          obtain ⟨bv, ov, rfl, hcw⟩ := hc3 (by decide)
          have hch := HC.out.at m
          obtain ⟨hl, hx, hdo⟩ := HK.out
          obtain ⟨tt, htt⟩ : ∃ t, chT ns xs m = t := ⟨_, rfl⟩
          obtain ⟨cc, hcc⟩ : ∃ c, xs 4 (dig ns m 4) = c := ⟨_, rfl⟩
          obtain ⟨ff, hff⟩ : ∃ f, xs 5 (dig ns m 5) = f := ⟨_, rfl⟩
          have HA : Hid (w1.cell? ⟨bv, ov, none⟩ = some (.int .i64 tt.b) ∧ w1.cell? ⟨bv, ov + 1, none⟩ = some (.int .i64 tt.w) ∧ w1.cell? ⟨bv, ov + 2, none⟩ = some (.int .i64 tt.q) ∧ w1.cell? ⟨bv, ov + 3, none⟩ = some (.int .i64 tt.s) ∧ w1.cell? ⟨bv, ov + 4, none⟩ = some (.int .i64 cc) ∧ w1.cell? ⟨bv, ov + 5, none⟩ = some (.int .i64 ff)) := by
            rw [← htt, ← hcc, ← hff]
            exact Lib.hid ⟨hcw 0 (by decide), hcw 1 (by decide), hcw 2 (by decide), hcw 3 (by decide), hcw 4 (by decide), hcw 5 (by decide)⟩
          rw [htt, hcc, hff] at hch
          have HNx : Hid (∀ nn (u : Nat → T4), (∀ i, i < nn → DayU l d tt cc ff (u i)) → (∀ q, DayU l d tt cc ff q → ∃ i, i < nn ∧ u i = q) → 1 ≤ nn → ∀ y, Acc l d ns xs m u nn y → Acc l d ns xs (m + 1) u 0 y) := Lib.hid (fun nn u h1 h2 hn y h => by
            rw [← htt, ← hcc, ← hff] at h1 h2
            exact h.done hn h1 h2 u)
          have HDays : Hid (∀ W, CovAt W (.slice va l.n vcap) l.n l.D l.P0 l.P1 → Calls Try.prog 41 #[.agg #[.int .i64 l.gr, .int .i64 l.la, (.slice va l.n vcap), .int .i64 l.m0, .int .i64 l.m1, .int .i64 l.so, .int .i64 l.h0, .int .i64 l.h1], .agg #[.int .i64 tt.b, .int .i64 tt.w, .int .i64 tt.q, .int .i64 tt.s], .agg #[.int .i64 d.c0, .int .i64 d.c1, .int .i64 d.f0, .int .i64 d.f1, .int .i64 d.wa, .bool d.cl], .int .i64 cc, .int .i64 ff] W fun e w' => ∃ v n u, e = .returned v ∧ 1 ≤ n ∧ n ≤ 8 ∧ (∀ i, i < n → DayU l d tt cc ff (u i)) ∧ (∀ z, DayU l d tt cc ff z → ∃ i, i < n ∧ u i = z) ∧ w'.ownsRow W.heap.size 57 4 v n (catC (trC u) n) ∧ Below W.heap.size W w') := Lib.hid (fun W hW => by
            obtain ⟨e0, e1, e2, e3, e4, e5⟩ := hch
            obtain ⟨xb, xw, xq, xs'⟩ := hx
            unfold Ede at e0 e1 e2 e3 e5
            unfold Cld at e4
            have d1 := hdo.c1
            have d2 := hdo.f1
            exact edays_any l va vcap tt d cc ff W hl hW (by omega) (by omega) (by omega) (by omega) hdo (by omega) (by omega))
          clear hcw htt hcc hff hch hl hx hdo
          have jL := KL.out.call hB
          have jD := KD.out.call hB
          have kC := KC.out.later hB
          go_upto_region 20 with fail
          refine wp_region_held_drew (S := (fun w' => Below w1.heap.size w1 w')) (by kernel_rfl) ?_ (fun hH => ?_)
          · (try dsimp only); (exact (Below.refl _ _).drew)
          refine tkY 0 (some 91) ?_ ?_ ?_
          rotate_left
          · intro w hS0; (try dsimp only at hS0); have kl := jL.call hS0; have kd := jD.call hS0; obtain ⟨l0, l1, l2, l3, l4, l5, l6, l7⟩ := kl.c8; obtain ⟨p0, p1, p2, p3, p4, p5⟩ := kd.c6; have yL := kl.lt; have yD := kd.lt; obtain ⟨a0, a1, a2, a3, a4, a5⟩ := HA.out; replace a0 := cell_later hS0 a0; replace a1 := cell_later hS0 a1; replace a2 := cell_later hS0 a2; replace a3 := cell_later hS0 a3; replace a4 := cell_later hS0 a4; replace a5 := cell_later hS0 a5; have yA := World.block_lt_of_cell? _ _ a0;go_simp; (try with_reducible rfl)
          (try simp only [cq])
          refine tkY 1 (some 92) ?_ ?_ ?_
          rotate_left
          · intro w _; go_simp; (try with_reducible rfl)
          (try simp only [cq])
          refine tkY 2 (some 93) ?_ ?_ ?_
          rotate_left
          · intro w hS0; (try dsimp only at hS0); have kl := jL.call hS0; have kd := jD.call hS0; obtain ⟨l0, l1, l2, l3, l4, l5, l6, l7⟩ := kl.c8; obtain ⟨p0, p1, p2, p3, p4, p5⟩ := kd.c6; have yL := kl.lt; have yD := kd.lt; obtain ⟨a0, a1, a2, a3, a4, a5⟩ := HA.out; replace a0 := cell_later hS0 a0; replace a1 := cell_later hS0 a1; replace a2 := cell_later hS0 a2; replace a3 := cell_later hS0 a3; replace a4 := cell_later hS0 a4; replace a5 := cell_later hS0 a5; have yA := World.block_lt_of_cell? _ _ a0;go_simp; (try with_reducible rfl)
          (try simp only [cq])
          refine tkY 3 (some 94) ?_ ?_ ?_
          rotate_left
          · intro w hS0; (try dsimp only at hS0); have kl := jL.call hS0; have kd := jD.call hS0; obtain ⟨l0, l1, l2, l3, l4, l5, l6, l7⟩ := kl.c8; obtain ⟨p0, p1, p2, p3, p4, p5⟩ := kd.c6; have yL := kl.lt; have yD := kd.lt; obtain ⟨a0, a1, a2, a3, a4, a5⟩ := HA.out; replace a0 := cell_later hS0 a0; replace a1 := cell_later hS0 a1; replace a2 := cell_later hS0 a2; replace a3 := cell_later hS0 a3; replace a4 := cell_later hS0 a4; replace a5 := cell_later hS0 a5; have yA := World.block_lt_of_cell? _ _ a0;go_simp; (try with_reducible rfl)
          (try simp only [cq])
          refine tkY 4 (some 95) ?_ ?_ ?_
          rotate_left
          · intro w _; go_simp; (try with_reducible rfl)
          (try simp only [cq])
          refine tkY 5 (some 96) ?_ ?_ ?_
          rotate_left
          · intro w hS0; (try dsimp only at hS0); have kl := jL.call hS0; have kd := jD.call hS0; obtain ⟨l0, l1, l2, l3, l4, l5, l6, l7⟩ := kl.c8; obtain ⟨p0, p1, p2, p3, p4, p5⟩ := kd.c6; have yL := kl.lt; have yD := kd.lt; obtain ⟨a0, a1, a2, a3, a4, a5⟩ := HA.out; replace a0 := cell_later hS0 a0; replace a1 := cell_later hS0 a1; replace a2 := cell_later hS0 a2; replace a3 := cell_later hS0 a3; replace a4 := cell_later hS0 a4; replace a5 := cell_later hS0 a5; have yA := World.block_lt_of_cell? _ _ a0;go_simp; (try with_reducible rfl)
          (try simp only [cq])
          refine tkY 6 (some 97) ?_ ?_ ?_
          rotate_left
          · intro w hS0; (try dsimp only at hS0); have kl := jL.call hS0; have kd := jD.call hS0; obtain ⟨l0, l1, l2, l3, l4, l5, l6, l7⟩ := kl.c8; obtain ⟨p0, p1, p2, p3, p4, p5⟩ := kd.c6; have yL := kl.lt; have yD := kd.lt; obtain ⟨a0, a1, a2, a3, a4, a5⟩ := HA.out; replace a0 := cell_later hS0 a0; replace a1 := cell_later hS0 a1; replace a2 := cell_later hS0 a2; replace a3 := cell_later hS0 a3; replace a4 := cell_later hS0 a4; replace a5 := cell_later hS0 a5; have yA := World.block_lt_of_cell? _ _ a0;go_simp; (try with_reducible rfl)
          (try simp only [cq])
          refine tkY 7 (some 98) ?_ ?_ ?_
          rotate_left
          · intro w _; go_simp; (try with_reducible rfl)
          (try simp only [cq])
          refine tkY 8 (some 99) ?_ ?_ ?_
          rotate_left
          · intro w hS0; (try dsimp only at hS0); have kl := jL.call hS0; have kd := jD.call hS0; obtain ⟨l0, l1, l2, l3, l4, l5, l6, l7⟩ := kl.c8; obtain ⟨p0, p1, p2, p3, p4, p5⟩ := kd.c6; have yL := kl.lt; have yD := kd.lt; obtain ⟨a0, a1, a2, a3, a4, a5⟩ := HA.out; replace a0 := cell_later hS0 a0; replace a1 := cell_later hS0 a1; replace a2 := cell_later hS0 a2; replace a3 := cell_later hS0 a3; replace a4 := cell_later hS0 a4; replace a5 := cell_later hS0 a5; have yA := World.block_lt_of_cell? _ _ a0;go_simp; (try with_reducible rfl)
          (try simp only [cq])
          refine tkY 9 (some 100) ?_ ?_ ?_
          rotate_left
          · intro w hS0; (try dsimp only at hS0); have kl := jL.call hS0; have kd := jD.call hS0; obtain ⟨l0, l1, l2, l3, l4, l5, l6, l7⟩ := kl.c8; obtain ⟨p0, p1, p2, p3, p4, p5⟩ := kd.c6; have yL := kl.lt; have yD := kd.lt; obtain ⟨a0, a1, a2, a3, a4, a5⟩ := HA.out; replace a0 := cell_later hS0 a0; replace a1 := cell_later hS0 a1; replace a2 := cell_later hS0 a2; replace a3 := cell_later hS0 a3; replace a4 := cell_later hS0 a4; replace a5 := cell_later hS0 a5; have yA := World.block_lt_of_cell? _ _ a0;go_simp; (try with_reducible rfl)
          (try simp only [cq])
          refine tkY 10 (some 101) ?_ ?_ ?_
          rotate_left
          · intro w _; go_simp; (try with_reducible rfl)
          (try simp only [cq])
          refine tkY 11 (some 102) ?_ ?_ ?_
          rotate_left
          · intro w hS0; (try dsimp only at hS0); have kl := jL.call hS0; have kd := jD.call hS0; obtain ⟨l0, l1, l2, l3, l4, l5, l6, l7⟩ := kl.c8; obtain ⟨p0, p1, p2, p3, p4, p5⟩ := kd.c6; have yL := kl.lt; have yD := kd.lt; obtain ⟨a0, a1, a2, a3, a4, a5⟩ := HA.out; replace a0 := cell_later hS0 a0; replace a1 := cell_later hS0 a1; replace a2 := cell_later hS0 a2; replace a3 := cell_later hS0 a3; replace a4 := cell_later hS0 a4; replace a5 := cell_later hS0 a5; have yA := World.block_lt_of_cell? _ _ a0;go_simp; (try with_reducible rfl)
          (try simp only [cq])
          refine tkY 12 (some 103) ?_ ?_ ?_
          rotate_left
          · intro w hS0; (try dsimp only at hS0); have kl := jL.call hS0; have kd := jD.call hS0; obtain ⟨l0, l1, l2, l3, l4, l5, l6, l7⟩ := kl.c8; obtain ⟨p0, p1, p2, p3, p4, p5⟩ := kd.c6; have yL := kl.lt; have yD := kd.lt; obtain ⟨a0, a1, a2, a3, a4, a5⟩ := HA.out; replace a0 := cell_later hS0 a0; replace a1 := cell_later hS0 a1; replace a2 := cell_later hS0 a2; replace a3 := cell_later hS0 a3; replace a4 := cell_later hS0 a4; replace a5 := cell_later hS0 a5; have yA := World.block_lt_of_cell? _ _ a0;go_simp; (try with_reducible rfl)
          (try simp only [cq])
          refine tkY 13 (some 104) ?_ ?_ ?_
          rotate_left
          · intro w _; go_simp; (try with_reducible rfl)
          (try simp only [cq])
          refine tkY 14 (some 105) ?_ ?_ ?_
          rotate_left
          · intro w hS0; (try dsimp only at hS0); have kl := jL.call hS0; have kd := jD.call hS0; obtain ⟨l0, l1, l2, l3, l4, l5, l6, l7⟩ := kl.c8; obtain ⟨p0, p1, p2, p3, p4, p5⟩ := kd.c6; have yL := kl.lt; have yD := kd.lt; obtain ⟨a0, a1, a2, a3, a4, a5⟩ := HA.out; replace a0 := cell_later hS0 a0; replace a1 := cell_later hS0 a1; replace a2 := cell_later hS0 a2; replace a3 := cell_later hS0 a3; replace a4 := cell_later hS0 a4; replace a5 := cell_later hS0 a5; have yA := World.block_lt_of_cell? _ _ a0;go_simp; (try with_reducible rfl)
          (try simp only [cq])
          refine tkY 15 (some 106) ?_ ?_ ?_
          rotate_left
          · intro w _; go_simp; (try with_reducible rfl)
          (try simp only [cq])
          refine tkY 16 (some 107) ?_ ?_ ?_
          rotate_left
          · intro w hS0; (try dsimp only at hS0); have kl := jL.call hS0; have kd := jD.call hS0; obtain ⟨l0, l1, l2, l3, l4, l5, l6, l7⟩ := kl.c8; obtain ⟨p0, p1, p2, p3, p4, p5⟩ := kd.c6; have yL := kl.lt; have yD := kd.lt; obtain ⟨a0, a1, a2, a3, a4, a5⟩ := HA.out; replace a0 := cell_later hS0 a0; replace a1 := cell_later hS0 a1; replace a2 := cell_later hS0 a2; replace a3 := cell_later hS0 a3; replace a4 := cell_later hS0 a4; replace a5 := cell_later hS0 a5; have yA := World.block_lt_of_cell? _ _ a0;go_simp; (try with_reducible rfl)
          (try simp only [cq])
          refine tkY 17 (some 108) ?_ ?_ ?_
          rotate_left
          · intro w hS0; (try dsimp only at hS0); have kl := jL.call hS0; have kd := jD.call hS0; obtain ⟨l0, l1, l2, l3, l4, l5, l6, l7⟩ := kl.c8; obtain ⟨p0, p1, p2, p3, p4, p5⟩ := kd.c6; have yL := kl.lt; have yD := kd.lt; obtain ⟨a0, a1, a2, a3, a4, a5⟩ := HA.out; replace a0 := cell_later hS0 a0; replace a1 := cell_later hS0 a1; replace a2 := cell_later hS0 a2; replace a3 := cell_later hS0 a3; replace a4 := cell_later hS0 a4; replace a5 := cell_later hS0 a5; have yA := World.block_lt_of_cell? _ _ a0;go_simp; (try with_reducible rfl)
          (try simp only [cq])
          refine tkY 18 (some 109) ?_ ?_ ?_
          rotate_left
          · intro w _; go_simp; (try with_reducible rfl)
          (try simp only [cq])
          refine tkY 19 (some 110) ?_ ?_ ?_
          rotate_left
          · intro w hS0; (try dsimp only at hS0); have kl := jL.call hS0; have kd := jD.call hS0; obtain ⟨l0, l1, l2, l3, l4, l5, l6, l7⟩ := kl.c8; obtain ⟨p0, p1, p2, p3, p4, p5⟩ := kd.c6; have yL := kl.lt; have yD := kd.lt; obtain ⟨a0, a1, a2, a3, a4, a5⟩ := HA.out; replace a0 := cell_later hS0 a0; replace a1 := cell_later hS0 a1; replace a2 := cell_later hS0 a2; replace a3 := cell_later hS0 a3; replace a4 := cell_later hS0 a4; replace a5 := cell_later hS0 a5; have yA := World.block_lt_of_cell? _ _ a0;go_simp; (try with_reducible rfl)
          (try simp only [cq])
          refine tkY 20 (some 111) ?_ ?_ ?_
          rotate_left
          · intro w hS0; (try dsimp only at hS0); have kl := jL.call hS0; have kd := jD.call hS0; obtain ⟨l0, l1, l2, l3, l4, l5, l6, l7⟩ := kl.c8; obtain ⟨p0, p1, p2, p3, p4, p5⟩ := kd.c6; have yL := kl.lt; have yD := kd.lt; obtain ⟨a0, a1, a2, a3, a4, a5⟩ := HA.out; replace a0 := cell_later hS0 a0; replace a1 := cell_later hS0 a1; replace a2 := cell_later hS0 a2; replace a3 := cell_later hS0 a3; replace a4 := cell_later hS0 a4; replace a5 := cell_later hS0 a5; have yA := World.block_lt_of_cell? _ _ a0;go_simp; (try with_reducible rfl)
          (try simp only [cq])
          refine wpAnyH_ready (rs := [21]) (by kernel_rfl) (by simp) ?_
          refine arc1 (some 112) fun K hK => ?_
          go_simp
          (refine (HDays.out _ (kC.later hH)).mono ?_; rintro e w' ⟨vv, nn, u, rfl, hn1, hn8, h1, h2, hR, hb⟩; have HU := Lib.hid (And.intro h1 h2); clear h1 h2)
          refine hK.out _ _ ?_ ?_
          · (exact bwS hH (Nat.le_refl _) hb)
          (try clear hH); (try clear hb)
          intro hH
          clear hK K
          (try simp only [cq])
          refine tkY 22 (some 21) ?_ ?_ ?_
          rotate_left
          · intro w _; go_simp; (try with_reducible rfl)
          (try simp only [cq])
          refine wpAnyH_done (by kernel_rfl) ?_ _
          (try dsimp only [Act.put])
          (try simp only [cq])
          replace jM := jM.call hH
          replace hB := bwS hB (Nat.le_refl _) hH
          clear hH jL jD kC HA HDays
          obtain ⟨W6, hVV⟩ : ∃ W6, W6 = w' := ⟨_, rfl⟩
          subst hVV
          have hne := blk_row_ne2 jM hR (by decide)
          obtain ⟨bt, ct, rfl, hk1, hk2, hcells⟩ := trs_of_row hn1 hR
          have hne2 : bt ≠ bM := fun e => hne bt rfl e.symm
          have HT := Lib.hid hcells
          clear hcells hR hne
          have hA0 : Acc l d ns xs m u 0 z := by
            rcases HAc.out with h | h
            · exact .inl h
            · exact .inr (h.congr fun q => ⟨fun e => e.elim .inl (fun ⟨k, hk, _⟩ => by omega), fun e => e.elim .inl (fun ⟨k, hk, _⟩ => by omega)⟩)
          have hg := grownBy_refl W6 (some bM)
          clear HAc
          go_wp2_with fail
          go_loopw [22] (fun si wr => ∃ (i : Nat) (z' : Ic), i ≤ nn ∧ si = .int .i64 i ∧ Blk wr bM #[.int .i64 z'.b0, .int .i64 z'.b1, .int .i64 z'.w0, .int .i64 z'.w1, .int .i64 z'.q0, .int .i64 z'.q1, .int .i64 z'.s0, .int .i64 z'.s1] 28 ∧ Acc l d ns xs m u i z' ∧ W6.grownBy wr (some bM)) (fun si _ => nn - (intOf si).toNat)
          case atStart => exact ⟨0, z, by omega, rfl, jM, hA0, hg⟩
          case round =>
            clear jM hA0 hg
            obtain ⟨i, z', hi, rfl, kM, hA1, g2⟩ := hrel
            by_cases hlt2 : i < nn
            · have hii : (i : Int) < nn := by omega
              have HE : Hid (∀ W, W6.grownBy W (some bM) → W.cell? ⟨bt, i * 4, none⟩ = some (.int .i64 (u i).b) ∧ W.cell? ⟨bt, i * 4 + 1, none⟩ = some (.int .i64 (u i).w) ∧ W.cell? ⟨bt, i * 4 + 2, none⟩ = some (.int .i64 (u i).q) ∧ W.cell? ⟨bt, i * 4 + 3, none⟩ = some (.int .i64 (u i).s)) := Lib.hid (fun W g => by
                obtain ⟨a0, a1, a2, a3⟩ := HT.out i hlt2
                exact ⟨cell_grown g a0 hne2, cell_grown g a1 hne2, cell_grown g a2 hne2, cell_grown g a3 hne2⟩)
              obtain ⟨b, hb0⟩ : ∃ b : Bool, decide (m = 0 ∧ i = 0) = b := ⟨_, rfl⟩
              have HAn := Lib.hid (hA1.next b (by rw [← hb0]; simp))
              have HWd := Lib.hid (fun W => wider_b b z' (u i) W)
              obtain ⟨ui, hui⟩ : ∃ q, u i = q := ⟨_, rfl⟩
              rw [hui] at HE HAn HWd
              replace kM := kM.drew
              replace g2 : W6.grownBy wr.drew (some bM) := grownBy_drew g2
              clear hA1 hui HT
              by_cases hm0 : m = 0
              · have hbi : decide (i = 0) = b := by rw [← hb0]; simp [hm0]
                have hbj : decide ((i : Int) = 0) = b := by rw [← hbi]; simp
                have hbk : ((i : Int) == 0) = b := by rw [← hbj]; rfl
                have hm1 : decide ((m : Int) = 0) = true := by simp [hm0]
                have hm2 : decide (m = 0) = true := by simp [hm0]
                have hm3 : ((m : Int) == 0) = true := by simp [hm0]
                clear hb0 hm0
                go_upto_region 24 with fail
                (
 refine wp_region_held_drew (S := (fun w' => W6.grownBy w' (some bM))) (by kernel_rfl) ?_ (fun hH => ?_)
 · (try dsimp only); (exact g2)
 refine tkY 1 (some 120) ?_ ?_ ?_
 rotate_left
 · intro w _; go_simp; (try with_reducible rfl)
 (try simp only [cq])
 refine tkY 2 (some 121) ?_ ?_ ?_
 rotate_left
 · intro w _; go_simp; (try with_reducible rfl)
 (try simp only [cq])
 refine tkY 3 (some 122) ?_ ?_ ?_
 rotate_left
 · intro w hS0; (try dsimp only at hS0); obtain ⟨a0, a1, a2, a3⟩ := HE.out _ hS0; have yA := World.block_lt_of_cell? _ _ a0;go_simp; (try with_reducible rfl)
 (try simp only [cq])
 refine tkY 4 (some 123) ?_ ?_ ?_
 rotate_left
 · intro w hS0; (try dsimp only at hS0); obtain ⟨a0, a1, a2, a3⟩ := HE.out _ hS0; have yA := World.block_lt_of_cell? _ _ a0;go_simp; (try with_reducible rfl)
 (try simp only [cq])
 refine tkY 5 (some 124) ?_ ?_ ?_
 rotate_left
 · intro w _; go_simp; (try with_reducible rfl)
 (try simp only [cq])
 refine tkY 6 (some 125) ?_ ?_ ?_
 rotate_left
 · intro w _; go_simp; (try with_reducible rfl)
 (try simp only [cq])
 refine tkY 7 (some 126) ?_ ?_ ?_
 rotate_left
 · intro w _; go_simp; (try with_reducible rfl)
 (try simp only [cq])
 refine tkY 8 (some 127) ?_ ?_ ?_
 rotate_left
 · intro w _; go_simp; (try with_reducible rfl)
 (try simp only [cq])
 refine tkY 9 (some 128) ?_ ?_ ?_
 rotate_left
 · intro w _; go_simp; (try with_reducible rfl)
 (try simp only [cq])
 refine tkY 10 (some 129) ?_ ?_ ?_
 rotate_left
 · intro w _; go_simp; (try with_reducible rfl)
 (try simp only [cq])
 refine wpAnyH_ready (rs := [0]) (by kernel_rfl) (by simp) ?_
 refine arc1 (some 119) fun K hK => ?_
 obtain ⟨x0, x1, x2, x3, x4, x5, x6, x7⟩ := kM.c8
 have yM := kM.lt
 go_simp
 refine hK.out _ _ ?_ ?_
 · exact hH
 (try clear hH); (try clear hb)
 intro hH
 clear x0 x1 x2 x3 x4 x5 x6 x7 yM
 clear hK K
 (try simp only [cq])
 refine wpAnyH_ready (rs := [11]) (by kernel_rfl) (by simp) ?_
 refine arc1 (some 130) fun K hK => ?_
 go_simp
 (refine (HWd.out _).mono ?_; rintro e w' ⟨y2, hy2, rfl, hb⟩; have HY2 := Lib.hid hy2; clear hy2; replace kM := kM.call hb)
 refine hK.out _ _ ?_ ?_
 · (exact grownBy_trans hH (grown_some hb _))
 (try clear hH); (try clear hb)
 intro hH
 clear hK K
 (try simp only [cq])
 refine wpAnyH_ready (rs := [12]) (by kernel_rfl) (by simp) ?_
 refine arc1 none fun K hK => ?_
 have HMs := Lib.hid ((show Eight _ bM 28 from ⟨_, _, _, _, _, _, _, _, kM⟩).set8 (.int .i64 y2.b0) (.int .i64 y2.b1) (.int .i64 y2.w0) (.int .i64 y2.w1) (.int .i64 y2.q0) (.int .i64 y2.q1) (.int .i64 y2.s0) (.int .i64 y2.s1))
 have HGs := Lib.hid (grown_set8 (Blk.wld kM) bM (.int .i64 y2.b0) (.int .i64 y2.b1) (.int .i64 y2.w0) (.int .i64 y2.w1) (.int .i64 y2.q0) (.int .i64 y2.q1) (.int .i64 y2.s0) (.int .i64 y2.s1))
 simp only [Blk.wld] at HGs
 obtain ⟨r0, r1, r2, r3, r4, r5, r6, r7⟩ := kM.c8
 have f0 := kM.free 0
 have f1 := kM.free 1
 have f2 := kM.free 2
 have f3 := kM.free 3
 have f4 := kM.free 4
 have f5 := kM.free 5
 have f6 := kM.free 6
 have f7 := kM.free 7
 have yM := kM.lt
 go_simp
 refine hK.out _ _ ?_ ?_
 · exact grownBy_trans hH HGs.out
 (try clear hH); (try clear hb)
 intro hH
 clear hK K
 (try simp only [cq])
 refine wpAnyH_done (by kernel_rfl) ?_ _
 (try dsimp only [Act.put])
 (try simp only [cq])
 clear r0 r1 r2 r3 r4 r5 r6 r7 f0 f1 f2 f3 f4 f5 f6 f7 yM HGs kM
 have g3 := hH
 have kM := HMs.out
 clear hH HMs
 go_wp2
 go_roundw
 case rel => exact ⟨i + 1, y2, by omega, by go_num, kM, by rw [HY2.out]; exact HAn.out, g3⟩
 case measure => simp [intOf]; omega )
              · have hbf : b = false := by rw [← hb0]; simp [hm0]
                subst hbf
                have hm1 : decide ((m : Int) = 0) = false := by simp [hm0]
                have hm2 : decide (m = 0) = false := by simp [hm0]
                have hm3 : ((m : Int) == 0) = false := by simp [hm0]
                clear hb0 hm0
                go_upto_region 24 with fail
                (
 refine wp_region_held_drew (S := (fun w' => W6.grownBy w' (some bM))) (by kernel_rfl) ?_ (fun hH => ?_)
 · (try dsimp only); (exact g2)
 refine tkY 1 (some 120) ?_ ?_ ?_
 rotate_left
 · intro w _; go_simp; (try with_reducible rfl)
 (try simp only [cq])
 refine tkY 2 (some 121) ?_ ?_ ?_
 rotate_left
 · intro w _; go_simp; (try with_reducible rfl)
 (try simp only [cq])
 refine tkY 3 (some 122) ?_ ?_ ?_
 rotate_left
 · intro w hS0; (try dsimp only at hS0); obtain ⟨a0, a1, a2, a3⟩ := HE.out _ hS0; have yA := World.block_lt_of_cell? _ _ a0;go_simp; (try with_reducible rfl)
 (try simp only [cq])
 refine tkY 4 (some 123) ?_ ?_ ?_
 rotate_left
 · intro w hS0; (try dsimp only at hS0); obtain ⟨a0, a1, a2, a3⟩ := HE.out _ hS0; have yA := World.block_lt_of_cell? _ _ a0;go_simp; (try with_reducible rfl)
 (try simp only [cq])
 refine tkY 5 (some 124) ?_ ?_ ?_
 rotate_left
 · intro w _; go_simp; (try with_reducible rfl)
 (try simp only [cq])
 refine tkY 6 (some 125) ?_ ?_ ?_
 rotate_left
 · intro w _; go_simp; (try with_reducible rfl)
 (try simp only [cq])
 refine tkY 7 (some 126) ?_ ?_ ?_
 rotate_left
 · intro w _; go_simp; (try with_reducible rfl)
 (try simp only [cq])
 refine tkN 8 (some 127) ?_
 (try simp only [cq])
 refine tkN 9 (some 128) ?_
 (try simp only [cq])
 refine tkY 10 (some 129) ?_ ?_ ?_
 rotate_left
 · intro w _; go_simp; (try with_reducible rfl)
 (try simp only [cq])
 refine wpAnyH_ready (rs := [0]) (by kernel_rfl) (by simp) ?_
 refine arc1 (some 119) fun K hK => ?_
 obtain ⟨x0, x1, x2, x3, x4, x5, x6, x7⟩ := kM.c8
 have yM := kM.lt
 go_simp
 refine hK.out _ _ ?_ ?_
 · exact hH
 (try clear hH); (try clear hb)
 intro hH
 clear x0 x1 x2 x3 x4 x5 x6 x7 yM
 clear hK K
 (try simp only [cq])
 refine wpAnyH_ready (rs := [11]) (by kernel_rfl) (by simp) ?_
 refine arc1 (some 130) fun K hK => ?_
 go_simp
 (refine (HWd.out _).mono ?_; rintro e w' ⟨y2, hy2, rfl, hb⟩; have HY2 := Lib.hid hy2; clear hy2; replace kM := kM.call hb)
 refine hK.out _ _ ?_ ?_
 · (exact grownBy_trans hH (grown_some hb _))
 (try clear hH); (try clear hb)
 intro hH
 clear hK K
 (try simp only [cq])
 refine wpAnyH_ready (rs := [12]) (by kernel_rfl) (by simp) ?_
 refine arc1 none fun K hK => ?_
 have HMs := Lib.hid ((show Eight _ bM 28 from ⟨_, _, _, _, _, _, _, _, kM⟩).set8 (.int .i64 y2.b0) (.int .i64 y2.b1) (.int .i64 y2.w0) (.int .i64 y2.w1) (.int .i64 y2.q0) (.int .i64 y2.q1) (.int .i64 y2.s0) (.int .i64 y2.s1))
 have HGs := Lib.hid (grown_set8 (Blk.wld kM) bM (.int .i64 y2.b0) (.int .i64 y2.b1) (.int .i64 y2.w0) (.int .i64 y2.w1) (.int .i64 y2.q0) (.int .i64 y2.q1) (.int .i64 y2.s0) (.int .i64 y2.s1))
 simp only [Blk.wld] at HGs
 obtain ⟨r0, r1, r2, r3, r4, r5, r6, r7⟩ := kM.c8
 have f0 := kM.free 0
 have f1 := kM.free 1
 have f2 := kM.free 2
 have f3 := kM.free 3
 have f4 := kM.free 4
 have f5 := kM.free 5
 have f6 := kM.free 6
 have f7 := kM.free 7
 have yM := kM.lt
 go_simp
 refine hK.out _ _ ?_ ?_
 · exact grownBy_trans hH HGs.out
 (try clear hH); (try clear hb)
 intro hH
 clear hK K
 (try simp only [cq])
 refine wpAnyH_done (by kernel_rfl) ?_ _
 (try dsimp only [Act.put])
 (try simp only [cq])
 clear r0 r1 r2 r3 r4 r5 r6 r7 f0 f1 f2 f3 f4 f5 f6 f7 yM HGs kM
 have g3 := hH
 have kM := HMs.out
 clear hH HMs
 go_wp2
 go_roundw
 case rel => exact ⟨i + 1, y2, by omega, by go_num, kM, by rw [HY2.out]; exact HAn.out, g3⟩
 case measure => simp [intOf]; omega )
            · obtain rfl : i = nn := by omega
              clear hlt2 hi
              have hB2 := grown_below hB g2 (fun k e => by simp only [Option.some.injEq] at e; omega) (Nat.le_refl _)
              have HAd := Lib.hid (HNx.out _ u HU.out.1 HU.out.2 hn1 _ hA1)
              clear hA1 g2 hB HU HNx HT
              go_wp2
              go_roundw
              case rel =>
                (repeat apply Exists.intro)
                exact ⟨⟨m + 1, z', u, by omega, by go_num, hB2, kM, HAd.out⟩, rfl⟩
              case measure => simp [intOf]; omega
        · obtain rfl : m = M := by omega
          clear hlt hm
          obtain ⟨hl, hx, hdo⟩ := HK.out
          have hz : z = y := by
            rw [← HM.out] at hAc
            rw [hAc.all hl hx.nn hdo HC.out, HY.out]
          subst hz
          clear hl hx hdo hAc
          have jB := bwS KB.out (Nat.le_refl _) hB
          have jY := KY.out.call hB
          obtain ⟨x0, x1, x2, x3, x4, x5, x6, x7⟩ := jM.c8
          obtain ⟨r0, r1, r2, r3, r4, r5, r6, r7⟩ := jY.c8
          have yM := jM.lt
          have yY := jY.lt
          clear jM jY hB KB KY KL KD KC
          go_wp2_with fail
          refine (awake_any _).mono ?_
          rintro e w9 ⟨rfl, hb⟩
          replace jB := bwS jB (Nat.le_refl _) hb
          clear x0 x1 x2 x3 x4 x5 x6 x7 r0 r1 r2 r3 r4 r5 r6 r7 yM yY hb
          go_wp2
          go_ret
          exact ⟨rfl, jB⟩
end Go.Proofs.Ytkldjaofgdklbaa

/-
  The kit's Has, In, Inside, InIce where they say yes; TrueIce.
-/
import Derived.Test.YtkldjaofgdklbaaTail
import Derived.Test.YtkldjaofgdklbaaIceOf
set_option linter.unusedVariables false
set_option linter.unusedSimpArgs false
namespace Go.Proofs.Ytkldjaofgdklbaa
open Go.RowKit

theorem khas_yes (lo hi n : Int) (w : World) (h1 : lo ≤ n) (h2 : n ≤ hi) :
    Calls Try.prog 81 #[.agg #[.int .i64 lo, .int .i64 hi], .int .i64 n] w fun e w' => e = .returned (.bool true) ∧ Below w.heap.size w w' := by
  go_enter Try.func81, Try.ntmps81
  go_wp2
  go_ret
  exact ⟨by simp [h1, h2], by (repeat (first | exact Below.refl _ _ | assumption | refine Below.drew ?_ | refine Below.drewN ?_ _ | refine blT ?_ | refine blU ?_))⟩

theorem kin_yes (a b c d : Int) (w : World) (h1 : c ≤ a) (h2 : b ≤ d) :
    Calls Try.prog 45 #[.agg #[.int .i64 a, .int .i64 b], .agg #[.int .i64 c, .int .i64 d]] w fun e w' => e = .returned (.bool true) ∧ Below w.heap.size w w' := by
  go_enter Try.func45, Try.ntmps45
  go_wp2
  go_ret
  exact ⟨by simp [h1, h2], by (repeat (first | exact Below.refl _ _ | assumption | refine Below.drew ?_ | refine Below.drewN ?_ _ | refine blT ?_ | refine blU ?_))⟩

structure Ic.Sub (x y : Ic) : Prop where
  b0 : y.b0 ≤ x.b0
  b1 : x.b1 ≤ y.b1
  w0 : y.w0 ≤ x.w0
  w1 : x.w1 ≤ y.w1
  q0 : y.q0 ≤ x.q0
  q1 : x.q1 ≤ y.q1
  s0 : y.s0 ≤ x.s0
  s1 : x.s1 ≤ y.s1
structure TrIn (b w q s : Int) (x : Ic) : Prop where
  b0 : x.b0 ≤ b
  b1 : b ≤ x.b1
  w0 : x.w0 ≤ w
  w1 : w ≤ x.w1
  q0 : x.q0 ≤ q
  q1 : q ≤ x.q1
  s0 : x.s0 ≤ s
  s1 : s ≤ x.s1
theorem Drawn.set4 {bs : Nat} {w v : World} (h : Drawn bs w v) {b : Nat} (hp : w.heap.size ≤ b) (hb : bs < w.heap.size) (u0 u1 u2 u3 : Value) :
    Drawn bs w ((((v.setCell ⟨b, 0, none⟩ u0).setCell ⟨b, 1, none⟩ u1).setCell ⟨b, 2, none⟩ u2).setCell ⟨b, 3, none⟩ u3) :=
  (((h.set (p := ⟨b, 0, none⟩) hp hb u0).set (p := ⟨b, 1, none⟩) hp hb u1).set (p := ⟨b, 2, none⟩) hp hb u2).set (p := ⟨b, 3, none⟩) hp hb u3
def Four (w : World) (b : Nat) (t : TypeId) : Prop := ∃ p q r s, Blk w b #[p, q, r, s] t
theorem Four.drawn {bs b : Nat} {t : TypeId} {w v : World} (g : Drawn bs w v) (h : Four w b t) (hne : b ≠ bs) : Four v b t := by
  obtain ⟨p, q, r, s, h⟩ := h
  exact ⟨p, q, r, s, g.blk h hne⟩
theorem Eight.drawn {bs b : Nat} {t : TypeId} {w v : World} (g : Drawn bs w v) (h : Eight w b t) (hne : b ≠ bs) : Eight v b t := by
  obtain ⟨x0, x1, x2, x3, x4, x5, x6, x7, h⟩ := h
  exact ⟨x0, x1, x2, x3, x4, x5, x6, x7, g.blk h hne⟩
theorem Drawn.after {bs : Nat} {w v v' : World} (h : Drawn bs w v) (hb : Below v.heap.size v v') : Drawn bs w v' := by
  obtain ⟨⟨u, hu⟩, g⟩ := h
  exact ⟨⟨u, hu.call hb⟩, grownBy_trans g ⟨hb.os, hb.tape, hb.output, hb.size, fun k hk _ => hb.block k hk⟩⟩

theorem kinside_yes (x y : Ic) (h : x.Sub y) (w : World) :
    Calls Try.prog 46 #[.agg #[.int .i64 x.b0, .int .i64 x.b1, .int .i64 x.w0, .int .i64 x.w1, .int .i64 x.q0, .int .i64 x.q1, .int .i64 x.s0, .int .i64 x.s1], .agg #[.int .i64 y.b0, .int .i64 y.b1, .int .i64 y.w0, .int .i64 y.w1, .int .i64 y.q0, .int .i64 y.q1, .int .i64 y.s0, .int .i64 y.s1]] w fun e w' => e = .returned (.bool true) ∧ Below w.heap.size w w' := by
  go_enter Try.func46, Try.ntmps46
  have jB : Below w.heap.size w ((w.alloc (.cells #[.int .i64 x.b0, .int .i64 x.b1, .int .i64 x.w0, .int .i64 x.w1, .int .i64 x.q0, .int .i64 x.q1, .int .i64 x.s0, .int .i64 x.s1] 28)).alloc (.cells #[.int .i64 y.b0, .int .i64 y.b1, .int .i64 y.w0, .int .i64 y.w1, .int .i64 y.q0, .int .i64 y.q1, .int .i64 y.s0, .int .i64 y.s1] 28)) := by (repeat (first | exact Below.refl _ _ | assumption | refine Below.drew ?_ | refine Below.drewN ?_ _ | refine blT ?_ | refine blU ?_))
  have jX := (Blk.new w #[.int .i64 x.b0, .int .i64 x.b1, .int .i64 x.w0, .int .i64 x.w1, .int .i64 x.q0, .int .i64 x.q1, .int .i64 x.s0, .int .i64 x.s1] 28).alloc (.cells #[.int .i64 y.b0, .int .i64 y.b1, .int .i64 y.w0, .int .i64 y.w1, .int .i64 y.q0, .int .i64 y.q1, .int .i64 y.s0, .int .i64 y.s1] 28)
  have jY := Blk.new1 w (.cells #[.int .i64 x.b0, .int .i64 x.b1, .int .i64 x.w0, .int .i64 x.w1, .int .i64 x.q0, .int .i64 x.q1, .int .i64 x.s0, .int .i64 x.s1] 28) #[.int .i64 y.b0, .int .i64 y.b1, .int .i64 y.w0, .int .i64 y.w1, .int .i64 y.q0, .int .i64 y.q1, .int .i64 y.s0, .int .i64 y.s1] 28
  go_wp2_with fail
  refine (kin_yes _ _ _ _ _ h.b0 h.b1).mono ?_
  rintro e w1 ⟨rfl, hb⟩
  replace jB := bwS jB (Nat.le_refl _) hb
  replace jX := jX.call hb
  replace jY := jY.call hb
  clear hb
  obtain ⟨p00, p01, p02, p03, p04, p05, p06, p07⟩ := jX.c8
  obtain ⟨r00, r01, r02, r03, r04, r05, r06, r07⟩ := jY.c8
  have zX := jX.lt
  have zY := jY.lt
  go_wp2_with fail
  clear p00 p01 p02 p03 p04 p05 p06 p07 r00 r01 r02 r03 r04 r05 r06 r07 zX zY
  refine (kin_yes _ _ _ _ _ h.w0 h.w1).mono ?_
  rintro e w2 ⟨rfl, hb⟩
  replace jB := bwS jB (Nat.le_refl _) hb
  replace jX := jX.call hb
  replace jY := jY.call hb
  clear hb
  obtain ⟨p10, p11, p12, p13, p14, p15, p16, p17⟩ := jX.c8
  obtain ⟨r10, r11, r12, r13, r14, r15, r16, r17⟩ := jY.c8
  have zX := jX.lt
  have zY := jY.lt
  go_wp2_with fail
  clear p10 p11 p12 p13 p14 p15 p16 p17 r10 r11 r12 r13 r14 r15 r16 r17 zX zY
  refine (kin_yes _ _ _ _ _ h.q0 h.q1).mono ?_
  rintro e w3 ⟨rfl, hb⟩
  replace jB := bwS jB (Nat.le_refl _) hb
  replace jX := jX.call hb
  replace jY := jY.call hb
  clear hb
  obtain ⟨p20, p21, p22, p23, p24, p25, p26, p27⟩ := jX.c8
  obtain ⟨r20, r21, r22, r23, r24, r25, r26, r27⟩ := jY.c8
  have zX := jX.lt
  have zY := jY.lt
  go_wp2_with fail
  clear p20 p21 p22 p23 p24 p25 p26 p27 r20 r21 r22 r23 r24 r25 r26 r27 zX zY
  refine (kin_yes _ _ _ _ _ h.s0 h.s1).mono ?_
  rintro e w4 ⟨rfl, hb⟩
  replace jB := bwS jB (Nat.le_refl _) hb
  replace jX := jX.call hb
  replace jY := jY.call hb
  clear hb
  go_wp2
  go_ret
  exact ⟨rfl, jB⟩

theorem kinice_yes (tb tw tq ts : Int) (x : Ic) (h : TrIn tb tw tq ts x) (w : World) :
    Calls Try.prog 33 #[.agg #[.int .i64 tb, .int .i64 tw, .int .i64 tq, .int .i64 ts], .agg #[.int .i64 x.b0, .int .i64 x.b1, .int .i64 x.w0, .int .i64 x.w1, .int .i64 x.q0, .int .i64 x.q1, .int .i64 x.s0, .int .i64 x.s1]] w fun e w' => e = .returned (.bool true) ∧ Below w.heap.size w w' := by
  go_enter Try.func33, Try.ntmps33
  have jB : Below w.heap.size w ((w.alloc (.cells #[.int .i64 tb, .int .i64 tw, .int .i64 tq, .int .i64 ts] 57)).alloc (.cells #[.int .i64 x.b0, .int .i64 x.b1, .int .i64 x.w0, .int .i64 x.w1, .int .i64 x.q0, .int .i64 x.q1, .int .i64 x.s0, .int .i64 x.s1] 28)) := by (repeat (first | exact Below.refl _ _ | assumption | refine Below.drew ?_ | refine Below.drewN ?_ _ | refine blT ?_ | refine blU ?_))
  have jX := (Blk.new w #[.int .i64 tb, .int .i64 tw, .int .i64 tq, .int .i64 ts] 57).alloc (.cells #[.int .i64 x.b0, .int .i64 x.b1, .int .i64 x.w0, .int .i64 x.w1, .int .i64 x.q0, .int .i64 x.q1, .int .i64 x.s0, .int .i64 x.s1] 28)
  have jY := Blk.new1 w (.cells #[.int .i64 tb, .int .i64 tw, .int .i64 tq, .int .i64 ts] 57) #[.int .i64 x.b0, .int .i64 x.b1, .int .i64 x.w0, .int .i64 x.w1, .int .i64 x.q0, .int .i64 x.q1, .int .i64 x.s0, .int .i64 x.s1] 28
  go_wp2_with fail
  refine (khas_yes _ _ _ _ h.b0 h.b1).mono ?_
  rintro e w1 ⟨rfl, hb⟩
  replace jB := bwS jB (Nat.le_refl _) hb
  replace jX := jX.call hb
  replace jY := jY.call hb
  clear hb
  obtain ⟨p00, p01, p02, p03⟩ := jX.c4
  obtain ⟨r00, r01, r02, r03, r04, r05, r06, r07⟩ := jY.c8
  have zX := jX.lt
  have zY := jY.lt
  go_wp2_with fail
  clear p00 p01 p02 p03 r00 r01 r02 r03 r04 r05 r06 r07 zX zY
  refine (khas_yes _ _ _ _ h.w0 h.w1).mono ?_
  rintro e w2 ⟨rfl, hb⟩
  replace jB := bwS jB (Nat.le_refl _) hb
  replace jX := jX.call hb
  replace jY := jY.call hb
  clear hb
  obtain ⟨p10, p11, p12, p13⟩ := jX.c4
  obtain ⟨r10, r11, r12, r13, r14, r15, r16, r17⟩ := jY.c8
  have zX := jX.lt
  have zY := jY.lt
  go_wp2_with fail
  clear p10 p11 p12 p13 r10 r11 r12 r13 r14 r15 r16 r17 zX zY
  refine (khas_yes _ _ _ _ h.q0 h.q1).mono ?_
  rintro e w3 ⟨rfl, hb⟩
  replace jB := bwS jB (Nat.le_refl _) hb
  replace jX := jX.call hb
  replace jY := jY.call hb
  clear hb
  obtain ⟨p20, p21, p22, p23⟩ := jX.c4
  obtain ⟨r20, r21, r22, r23, r24, r25, r26, r27⟩ := jY.c8
  have zX := jX.lt
  have zY := jY.lt
  go_wp2_with fail
  clear p20 p21 p22 p23 r20 r21 r22 r23 r24 r25 r26 r27 zX zY
  refine (khas_yes _ _ _ _ h.s0 h.s1).mono ?_
  rintro e w4 ⟨rfl, hb⟩
  replace jB := bwS jB (Nat.le_refl _) hb
  replace jX := jX.call hb
  replace jY := jY.call hb
  clear hb
  go_wp2
  go_ret
  exact ⟨rfl, jB⟩

set_option maxRecDepth 100000 in
set_option maxHeartbeats 4000000 in
theorem trueice_in (x : Ic) (bs : Nat) (w : World) (hs : SeedAt bs w) (hx : x.Kit) :
    Calls Try.prog 31 #[.pointer (some ⟨bs, 0, none⟩), .agg #[.int .i64 x.b0, .int .i64 x.b1, .int .i64 x.w0, .int .i64 x.w1, .int .i64 x.q0, .int .i64 x.q1, .int .i64 x.s0, .int .i64 x.s1]] w fun e w' => ∃ tb tw tq ts, e = .returned (.agg #[.int .i64 tb, .int .i64 tw, .int .i64 tq, .int .i64 ts]) ∧ TrIn tb tw tq ts x ∧ Drawn bs w w' := by
  have hbs : bs < w.heap.size := hs.choose_spec.lt
  obtain ⟨⟨hb0, hb1, hb2⟩, ⟨hw0, hw1, hw2⟩, ⟨hq0, hq1, hq2⟩, ⟨hs0, hs1, hs2⟩⟩ := hx
  have HIb : Hid (∀ W, SeedAt bs W → Calls Try.prog 75 #[.pointer (some ⟨bs, 0, none⟩), .agg #[.int .i64 x.b0, .int .i64 x.b1]] W fun e w' => ∃ v, e = .returned (.int .i64 v) ∧ x.b0 ≤ v ∧ v ≤ x.b1 ∧ Drawn bs W w') := fun W hW => inside_in x.b0 x.b1 bs W hW (by omega) (by omega) (by omega)
  have HIw : Hid (∀ W, SeedAt bs W → Calls Try.prog 75 #[.pointer (some ⟨bs, 0, none⟩), .agg #[.int .i64 x.w0, .int .i64 x.w1]] W fun e w' => ∃ v, e = .returned (.int .i64 v) ∧ x.w0 ≤ v ∧ v ≤ x.w1 ∧ Drawn bs W w') := fun W hW => inside_in x.w0 x.w1 bs W hW (by omega) (by omega) (by omega)
  have HIq : Hid (∀ W, SeedAt bs W → Calls Try.prog 75 #[.pointer (some ⟨bs, 0, none⟩), .agg #[.int .i64 x.q0, .int .i64 x.q1]] W fun e w' => ∃ v, e = .returned (.int .i64 v) ∧ x.q0 ≤ v ∧ v ≤ x.q1 ∧ Drawn bs W w') := fun W hW => inside_in x.q0 x.q1 bs W hW (by omega) (by omega) (by omega)
  have HIs : Hid (∀ W, SeedAt bs W → Calls Try.prog 75 #[.pointer (some ⟨bs, 0, none⟩), .agg #[.int .i64 x.s0, .int .i64 x.s1]] W fun e w' => ∃ v, e = .returned (.int .i64 v) ∧ x.s0 ≤ v ∧ v ≤ x.s1 ∧ Drawn bs W w') := fun W hW => inside_in x.s0 x.s1 bs W hW (by omega) (by omega) (by omega)
  clear hb0 hb1 hb2 hw0 hw1 hw2 hq0 hq1 hq2 hs0 hs1 hs2
  have hA0 := (Drawn.alloc hs (.cells #[.int .i64 x.b0, .int .i64 x.b1, .int .i64 x.w0, .int .i64 x.w1, .int .i64 x.q0, .int .i64 x.q1, .int .i64 x.s0, .int .i64 x.s1] 28)).new (.cells #[.int .i64 0, .int .i64 0, .int .i64 0, .int .i64 0] 57)
  have hX0 := (Blk.new w #[.int .i64 x.b0, .int .i64 x.b1, .int .i64 x.w0, .int .i64 x.w1, .int .i64 x.q0, .int .i64 x.q1, .int .i64 x.s0, .int .i64 x.s1] 28).alloc (.cells #[.int .i64 0, .int .i64 0, .int .i64 0, .int .i64 0] 57)
  have hR0 : Four _ _ _ := ⟨_, _, _, _, Blk.new1 w (.cells #[.int .i64 x.b0, .int .i64 x.b1, .int .i64 x.w0, .int .i64 x.w1, .int .i64 x.q0, .int .i64 x.q1, .int .i64 x.s0, .int .i64 x.s1] 28) #[.int .i64 0, .int .i64 0, .int .i64 0, .int .i64 0] 57⟩
  go_enter Try.func31, Try.ntmps31
  go_wp2_with fail
  (
 refine wp_region_held_drew (S := (fun w' => Drawn bs w w' ∧ Blk w' w.heap.size #[.int .i64 x.b0, .int .i64 x.b1, .int .i64 x.w0, .int .i64 x.w1, .int .i64 x.q0, .int .i64 x.q1, .int .i64 x.s0, .int .i64 x.s1] 28 ∧ Four w' (w.heap.size + 1) 57)) (by kernel_rfl) ?_ (fun hH => ?_)
 · (try dsimp only); (exact ⟨hA0.trans (Drawn.drew hA0.seed), hX0, hR0⟩)
 refine tkY 0 (some 5) ?_ ?_ ?_
 rotate_left
 · intro w _; go_simp; (try with_reducible rfl)
 (try simp only [cq])
 refine tkY 1 (some 6) ?_ ?_ ?_
 rotate_left
 · intro w hS0; (try dsimp only at hS0); obtain ⟨_, kS, _⟩ := hS0; obtain ⟨c0, c1, c2, c3, c4, c5, c6, c7⟩ := kS.c8;go_simp; (try with_reducible rfl)
 (try simp only [cq])
 refine tkY 2 (some 7) ?_ ?_ ?_
 rotate_left
 · intro w hS0; (try dsimp only at hS0); obtain ⟨_, kS, _⟩ := hS0; obtain ⟨c0, c1, c2, c3, c4, c5, c6, c7⟩ := kS.c8;go_simp; (try with_reducible rfl)
 (try simp only [cq])
 refine tkY 4 (some 9) ?_ ?_ ?_
 rotate_left
 · intro w _; go_simp; (try with_reducible rfl)
 (try simp only [cq])
 refine tkY 5 (some 10) ?_ ?_ ?_
 rotate_left
 · intro w hS0; (try dsimp only at hS0); obtain ⟨_, kS, _⟩ := hS0; obtain ⟨c0, c1, c2, c3, c4, c5, c6, c7⟩ := kS.c8;go_simp; (try with_reducible rfl)
 (try simp only [cq])
 refine tkY 6 (some 11) ?_ ?_ ?_
 rotate_left
 · intro w hS0; (try dsimp only at hS0); obtain ⟨_, kS, _⟩ := hS0; obtain ⟨c0, c1, c2, c3, c4, c5, c6, c7⟩ := kS.c8;go_simp; (try with_reducible rfl)
 (try simp only [cq])
 refine tkY 8 (some 13) ?_ ?_ ?_
 rotate_left
 · intro w _; go_simp; (try with_reducible rfl)
 (try simp only [cq])
 refine tkY 9 (some 14) ?_ ?_ ?_
 rotate_left
 · intro w hS0; (try dsimp only at hS0); obtain ⟨_, kS, _⟩ := hS0; obtain ⟨c0, c1, c2, c3, c4, c5, c6, c7⟩ := kS.c8;go_simp; (try with_reducible rfl)
 (try simp only [cq])
 refine tkY 10 (some 15) ?_ ?_ ?_
 rotate_left
 · intro w hS0; (try dsimp only at hS0); obtain ⟨_, kS, _⟩ := hS0; obtain ⟨c0, c1, c2, c3, c4, c5, c6, c7⟩ := kS.c8;go_simp; (try with_reducible rfl)
 (try simp only [cq])
 refine tkY 12 (some 17) ?_ ?_ ?_
 rotate_left
 · intro w _; go_simp; (try with_reducible rfl)
 (try simp only [cq])
 refine tkY 13 (some 18) ?_ ?_ ?_
 rotate_left
 · intro w hS0; (try dsimp only at hS0); obtain ⟨_, kS, _⟩ := hS0; obtain ⟨c0, c1, c2, c3, c4, c5, c6, c7⟩ := kS.c8;go_simp; (try with_reducible rfl)
 (try simp only [cq])
 refine tkY 14 (some 19) ?_ ?_ ?_
 rotate_left
 · intro w hS0; (try dsimp only at hS0); obtain ⟨_, kS, _⟩ := hS0; obtain ⟨c0, c1, c2, c3, c4, c5, c6, c7⟩ := kS.c8;go_simp; (try with_reducible rfl)
 (try simp only [cq])
 refine wpAnyH_ready (rs := [3]) (by kernel_rfl) (by simp) ?_
 refine arc1 (some 8) fun K hK => ?_
 go_simp
 (refine (HIb.out _ hH.1.seed).mono ?_; rintro e w' ⟨tb, rfl, tb0, tb1, hd⟩)
 refine hK.out _ _ ?_ (fun hH => ?_)
 · (exact ⟨hH.1.trans hd, hd.blk hH.2.1 (by omega), hH.2.2.drawn hd (by omega)⟩)
 clear hK K
 (try simp only [cq])
 refine wpAnyH_ready (rs := [7]) (by kernel_rfl) (by simp) ?_
 refine arc1 (some 12) fun K hK => ?_
 go_simp
 (refine (HIw.out _ hH.1.seed).mono ?_; rintro e w' ⟨tw, rfl, tw0, tw1, hd⟩)
 refine hK.out _ _ ?_ (fun hH => ?_)
 · (exact ⟨hH.1.trans hd, hd.blk hH.2.1 (by omega), hH.2.2.drawn hd (by omega)⟩)
 clear hK K
 (try simp only [cq])
 refine wpAnyH_ready (rs := [11]) (by kernel_rfl) (by simp) ?_
 refine arc1 (some 16) fun K hK => ?_
 go_simp
 (refine (HIq.out _ hH.1.seed).mono ?_; rintro e w' ⟨tq, rfl, tq0, tq1, hd⟩)
 refine hK.out _ _ ?_ (fun hH => ?_)
 · (exact ⟨hH.1.trans hd, hd.blk hH.2.1 (by omega), hH.2.2.drawn hd (by omega)⟩)
 clear hK K
 (try simp only [cq])
 refine wpAnyH_ready (rs := [15]) (by kernel_rfl) (by simp) ?_
 refine arc1 (some 20) fun K hK => ?_
 go_simp
 (refine (HIs.out _ hH.1.seed).mono ?_; rintro e w' ⟨ts, rfl, ts0, ts1, hd⟩)
 refine hK.out _ _ ?_ (fun hH => ?_)
 · (exact ⟨hH.1.trans hd, hd.blk hH.2.1 (by omega), hH.2.2.drawn hd (by omega)⟩)
 clear hK K
 (try simp only [cq])
 refine tkY 16 (some 21) ?_ ?_ ?_
 rotate_left
 · intro w _; go_simp; (try with_reducible rfl)
 (try simp only [cq])
 refine wpAnyH_ready (rs := [17]) (by kernel_rfl) (by simp) ?_
 refine arc1 none fun K hK => ?_
 obtain ⟨hD, hXX, p0, p1, p2, p3, hR⟩ := hH
 obtain ⟨r0, r1, r2, r3⟩ := hR.c4
 have fr0 := hR.free 0
 have fr1 := hR.free 1
 have fr2 := hR.free 2
 have fr3 := hR.free 3
 have zR := hR.lt
 have HS := Lib.hid (hR.set4 (.int .i64 tb) (.int .i64 tw) (.int .i64 tq) (.int .i64 ts))
 have HD := Lib.hid (hD.set4 (b := w.heap.size + 1) (by omega) hbs (.int .i64 tb) (.int .i64 tw) (.int .i64 tq) (.int .i64 ts))
 go_simp
 refine hK.out _ _ ?_ (fun hH => ?_)
 · exact ⟨HD.out, hXX.other4 (by omega) _ _ _ _, _, _, _, _, HS.out⟩
 clear hK K
 (try simp only [cq])
 refine wpAnyH_done (by kernel_rfl) ?_ _
 (try dsimp only [Act.put])
 (try simp only [cq])
 obtain ⟨z0, z1, z2, z3⟩ := HS.out.c4
 clear hH r0 r1 r2 r3 fr0 fr1 fr2 fr3 zR hR hXX hD
 go_wp2
 exact bodyPost_ret (v := .agg #[.int .i64 tb, .int .i64 tw, .int .i64 tq, .int .i64 ts]) (by simp [results, Try.results31, go_sem, z0, z1, z2, z3]) rfl ⟨_, _, _, _, rfl, ⟨tb0, tb1, tw0, tw1, tq0, tq1, ts0, ts1⟩, HD.out⟩ )
end Go.Proofs.Ytkldjaofgdklbaa

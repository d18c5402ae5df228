/-
  The kit's After: true ice stays within what is known.
-/
import Derived.Test.YtkldjaofgdklbaaTail
import Derived.Test.YtkldjaofgdklbaaNn
import Derived.Test.YtkldjaofgdklbaaRef3
import Derived.Test.YtkldjaofgdklbaaBig
set_option linter.unusedVariables false
set_option linter.unusedSimpArgs false
namespace Go.Proofs.Ytkldjaofgdklbaa
open Go.RowKit

theorem open_pos {l : Lw} (hl : l.Kit) {d : Dy} (hd : d.Ok) {q s f Q S : Int} (q0 : 0 ≤ q) (s0 : 0 ≤ s) (s1 : s ≤ 10000000) (f0 : 0 ≤ f) (f1 : f ≤ 1000) (hQ : Q = wetP d.wa q (snowP d.cl s f) l.so) (hS : S = leftP d.wa (snowP d.cl s f)) :
    0 ≤ Q ∧ Q ≤ q + 200 + s + 1000 ∧ 0 ≤ S ∧ S ≤ s + 1000 := by
  have K : 0 ≤ snowP d.cl s f ∧ snowP d.cl s f ≤ s + f := by unfold snowP; split <;> omega
  have K0 := soak_le (snowP d.cl s f) l.so K.1 hl.ok.o0 hl.ok.o1
  have w0 := hd.w0
  have w1 := hd.w1
  unfold wetP at hQ
  unfold leftP at hS
  split at hQ <;> split at hS <;> omega

theorem Four.call {w w' : World} {b : Nat} {t : TypeId} (h : Four w b t) (hb : Below w.heap.size w w') : Four w' b t := by
  obtain ⟨p, q, r, s, h⟩ := h
  exact ⟨p, q, r, s, h.call hb⟩

set_option maxRecDepth 100000 in
set_option maxHeartbeats 16000000 in
theorem after_in (l : Lw) (va : Option Addr) (vcap : Nat) (x : Ic) (tb tw tq ts : Int) (d : Dy) (bs : Nat) (w : World) (hs : SeedAt bs w) (hl : l.Kit) (hv : CovAt w (.slice va l.n vcap) l.n l.D l.P0 l.P1) (hx : x.Nn) (ht : TrIn tb tw tq ts x) (hd : d.Ok)
    (m1 : x.b1 ≤ 10000000) (m2 : x.w1 ≤ 10000000) (m3 : x.q1 ≤ 10000000) (m4 : x.s1 ≤ 10000000) :
    Calls Try.prog 32 #[.pointer (some ⟨bs, 0, none⟩), .agg #[.int .i64 l.gr, .int .i64 l.la, (.slice va l.n vcap), .int .i64 l.m0, .int .i64 l.m1, .int .i64 l.so, .int .i64 l.h0, .int .i64 l.h1], .agg #[.int .i64 tb, .int .i64 tw, .int .i64 tq, .int .i64 ts], .agg #[.int .i64 d.c0, .int .i64 d.c1, .int .i64 d.f0, .int .i64 d.f1, .int .i64 d.wa, .bool d.cl]] w
      fun e w' => ∃ b1 w1 q1 s1, e = .returned (.agg #[.int .i64 b1, .int .i64 w1, .int .i64 q1, .int .i64 s1]) ∧ TrIn b1 w1 q1 s1 (stepI l x d) ∧ Drawn bs w w' := by
  have hbs : bs < w.heap.size := hs.choose_spec.lt
  obtain ⟨d1, d2, d3, d4, d5, d6, d7, d8⟩ := id hd
  obtain ⟨t1, t2, t3, t4, t5, t6, t7, t8⟩ := id ht
  obtain ⟨n1, n2, n3, n4, n5, n6, n7, n8⟩ := id hx
  have HWarm := Lib.hid (fun (c f n Q S : Int) => true_warm hl hx ht hd (c := c) (f := f) (n := n) (Q := Q) (S := S))
  have HCold := Lib.hid (fun (c f n Q S : Int) => true_cold hl hx ht hd (c := c) (f := f) (n := n) (Q := Q) (S := S))
  have HIc := Lib.hid (show ∀ W, SeedAt bs W → Calls Try.prog 75 #[.pointer (some ⟨bs, 0, none⟩), .agg #[.int .i64 d.c0, .int .i64 d.c1]] W fun e w' => ∃ v, e = .returned (.int .i64 v) ∧ d.c0 ≤ v ∧ v ≤ d.c1 ∧ Drawn bs W w' from fun W hW => inside_in d.c0 d.c1 bs W hW (by omega) (by omega) (by omega))
  have HIf := Lib.hid (show ∀ W, SeedAt bs W → Calls Try.prog 75 #[.pointer (some ⟨bs, 0, none⟩), .agg #[.int .i64 d.f0, .int .i64 d.f1]] W fun e w' => ∃ v, e = .returned (.int .i64 v) ∧ d.f0 ≤ v ∧ v ≤ d.f1 ∧ Drawn bs W w' from fun W hW => inside_in d.f0 d.f1 bs W hW (by omega) (by omega) (by omega))
  have HO := Lib.hid (show ∀ f W, d.f0 ≤ f → f ≤ d.f1 → Calls Try.prog 76 #[.agg #[.int .i64 l.gr, .int .i64 l.la, (.slice va l.n vcap), .int .i64 l.m0, .int .i64 l.m1, .int .i64 l.so, .int .i64 l.h0, .int .i64 l.h1], .agg #[.int .i64 tb, .int .i64 tw, .int .i64 tq, .int .i64 ts], .agg #[.int .i64 d.c0, .int .i64 d.c1, .int .i64 d.f0, .int .i64 d.f1, .int .i64 d.wa, .bool d.cl], .int .i64 f] W fun e w' => ∃ Q S, e = .returned (.agg #[.int .i64 tb, .int .i64 tw, .int .i64 Q, .int .i64 S]) ∧ Q = wetP d.wa tq (snowP d.cl ts f) l.so ∧ S = leftP d.wa (snowP d.cl ts f) ∧ 0 ≤ Q ∧ Q ≤ 20100000 ∧ 0 ≤ S ∧ S ≤ 10001000 ∧ Below W.heap.size W w' from fun f W f0 f1 => by
    refine (ropened_any l va vcap tb tw tq ts d f W hl.ok (by omega) (by omega) (by omega) (by omega) (by omega) (by omega) d8).mono ?_
    rintro e w' ⟨rfl, hb⟩
    have q := open_pos hl hd (q := tq) (s := ts) (f := f) (by omega) (by omega) (by omega) (by omega) (by omega) rfl rfl
    exact ⟨_, _, rfl, rfl, rfl, by omega, by omega, by omega, by omega, hb⟩)
  have HT := Lib.hid (show ∀ c W, d.c0 ≤ c → c < 0 → Calls Try.prog 78 #[.agg #[.int .i64 l.gr, .int .i64 l.la, (.slice va l.n vcap), .int .i64 l.m0, .int .i64 l.m1, .int .i64 l.so, .int .i64 l.h0, .int .i64 l.h1], .int .i64 (-c)] W fun e w' => ∃ g0 g1, e = .returned (.agg #[.int .i64 g0, .int .i64 g1]) ∧ g0 = gotL (-c) l.m0 ∧ g1 = gotH (-c) l.m1 ∧ 0 ≤ g0 ∧ g0 ≤ g1 ∧ g1 ≤ 100000000 ∧ Below W.heap.size W w' from fun c W c0 c1 => by
    have k0 := hl.ok.m0
    have k1 := hl.ok.m1
    have k2 := hl.ok.m2
    have a0 : 0 ≤ (-c) * l.m0 := Int.mul_nonneg (by omega) k0
    have a1 : (-c) * l.m0 ≤ 1000 * 10000000 := Int.mul_le_mul (by omega) (by omega) k0 (by omega)
    have b0 : 0 ≤ (-c) * l.m1 := Int.mul_nonneg (by omega) (by omega)
    have b1 : (-c) * l.m1 ≤ 1000 * 10000000 := Int.mul_le_mul (by omega) (by omega) (by omega) (by omega)
    refine (rthawed_any l va vcap (-c) W a0 (by omega) b0 (by omega)).mono ?_
    rintro e w' ⟨rfl, hb⟩
    have q := got_LH (c := -c) (c' := -c) (by omega) (Int.le_refl _) k0 k1
    refine ⟨_, _, rfl, rfl, rfl, ?_, q, ?_, hb⟩
    · unfold gotL
      omega
    · unfold gotH
      omega)
  have HTh := Lib.hid (show ∀ S c W, 0 ≤ c → c ≤ d.c1 → CovAt W (.slice va l.n vcap) l.n l.D l.P0 l.P1 → Calls Try.prog 80 #[.agg #[.int .i64 l.gr, .int .i64 l.la, (.slice va l.n vcap), .int .i64 l.m0, .int .i64 l.m1, .int .i64 l.so, .int .i64 l.h0, .int .i64 l.h1], .int .i64 S, .int .i64 c] W fun e w' => ∃ g0 g1, e = .returned (.agg #[.int .i64 g0, .int .i64 g1]) ∧ g0 = gotL c (lastP l.D l.P0 S l.n) ∧ g1 = gotH c (lastP l.D l.P1 S l.n) ∧ 0 ≤ g0 ∧ g0 ≤ g1 ∧ g1 ≤ 100000 ∧ Below W.heap.size W w' from fun S c W c0 c1 hW => by
    have n4 := hl.n4
    have p0 := lastP_in l.D l.P0 S l.n hl.ok.n1 hl.ok.p0
    have p1 := lastP_in l.D l.P1 S l.n hl.ok.n1 hl.ok.p1
    have pp := lastP_le l.D l.P0 l.P1 S l.n (hl.each 0 (by have := hl.ok.n1; omega)).2.2.2.1 (fun i hi => (hl.each i hi).2.2.2.1)
    have i0 := got_in c _ c0 (by omega) p0.1 p0.2
    have i1 := got_in c _ c0 (by omega) p1.1 p1.2
    refine (rthrough_any l va vcap S c W hl.ok (by omega) hW c0 (by omega)).mono ?_
    rintro e w' ⟨rfl, hb⟩
    have q := got_LH (c := c) (c' := c) c0 (Int.le_refl _) p0.1 pp
    exact ⟨_, _, rfl, rfl, rfl, by omega, q, by omega, hb⟩)
  have HF := Lib.hid (show ∀ Q S n up W, 0 ≤ Q → Q ≤ 20100000 → 0 ≤ n → n ≤ 100000 → Calls Try.prog 79 #[.agg #[.int .i64 l.gr, .int .i64 l.la, (.slice va l.n vcap), .int .i64 l.m0, .int .i64 l.m1, .int .i64 l.so, .int .i64 l.h0, .int .i64 l.h1], .agg #[.int .i64 tb, .int .i64 tw, .int .i64 Q, .int .i64 S], .int .i64 n, .bool up] W fun e w' => ∃ R b1, (R = rtI ∨ R = rfI) ∧ b1 = grownP R l.gr l.la tb tw Q n ∧ e = .returned (.agg #[.int .i64 b1, .int .i64 (tw + min Q (n / l.la)), .int .i64 (Q - min Q (n / l.la)), .int .i64 S]) ∧ Below W.heap.size W w' from fun Q S n up W q0 q1 c0 c1 => by
    cases up with
    | false => exact (rfrozen_false l va vcap tb tw Q S n W hl.ok (by omega) (by omega) (by omega) (by omega) q0 (by omega) c0 c1).mono fun e w' h => ⟨rtI, _, .inl rfl, rfl, h.1, h.2⟩
    | true => exact (rfrozen_true l va vcap tb tw Q S n W hl.ok (by omega) (by omega) (by omega) (by omega) q0 (by omega) c0 c1).mono fun e w' h => ⟨rfI, _, .inr rfl, rfl, h.1, h.2⟩)
  have HM := Lib.hid (show ∀ Q S n W, 0 ≤ S → S ≤ 10001000 → 0 ≤ n → n ≤ 100000000 → Calls Try.prog 77 #[.agg #[.int .i64 tb, .int .i64 tw, .int .i64 Q, .int .i64 S], .int .i64 n] W fun e w' => e = .returned (.agg #[.int .i64 (mD tb (mD (mD n S) tw)), .int .i64 (mD tw (mD n S)), .int .i64 Q, .int .i64 (mD S n)]) ∧ Below W.heap.size W w' from fun Q S n W s0 s1 c0 c1 => rmelted_any tb tw Q S n W (by omega) (by omega) (by omega) (by omega) s0 (by omega) c0 (by omega))
  clear d3 d4 d5 d6 d7 d8 t1 t2 t3 t4 t5 t6 t7 t8 n1 n2 n3 n4 n5 n6 n7 n8 m1 m2 m3 m4 hx ht hd
  have hA0 := (((Drawn.alloc hs (.cells #[.int .i64 l.gr, .int .i64 l.la, (.slice va l.n vcap), .int .i64 l.m0, .int .i64 l.m1, .int .i64 l.so, .int .i64 l.h0, .int .i64 l.h1] 26)).new (.cells #[.int .i64 tb, .int .i64 tw, .int .i64 tq, .int .i64 ts] 57)).new (.cells #[.int .i64 d.c0, .int .i64 d.c1, .int .i64 d.f0, .int .i64 d.f1, .int .i64 d.wa, .bool d.cl] 30)).new (.cells #[.int .i64 0, .int .i64 0, .int .i64 0, .int .i64 0] 57)
  have jL := (((Blk.new w #[.int .i64 l.gr, .int .i64 l.la, .slice va l.n vcap, .int .i64 l.m0, .int .i64 l.m1, .int .i64 l.so, .int .i64 l.h0, .int .i64 l.h1] 26).alloc (.cells #[.int .i64 tb, .int .i64 tw, .int .i64 tq, .int .i64 ts] 57)).alloc (.cells #[.int .i64 d.c0, .int .i64 d.c1, .int .i64 d.f0, .int .i64 d.f1, .int .i64 d.wa, .bool d.cl] 30)).alloc (.cells #[.int .i64 0, .int .i64 0, .int .i64 0, .int .i64 0] 57)
  have jT := ((Blk.new1 w (.cells #[.int .i64 l.gr, .int .i64 l.la, (.slice va l.n vcap), .int .i64 l.m0, .int .i64 l.m1, .int .i64 l.so, .int .i64 l.h0, .int .i64 l.h1] 26) #[.int .i64 tb, .int .i64 tw, .int .i64 tq, .int .i64 ts] 57).alloc (.cells #[.int .i64 d.c0, .int .i64 d.c1, .int .i64 d.f0, .int .i64 d.f1, .int .i64 d.wa, .bool d.cl] 30)).alloc (.cells #[.int .i64 0, .int .i64 0, .int .i64 0, .int .i64 0] 57)
  have jD := (Blk.new2 w (.cells #[.int .i64 l.gr, .int .i64 l.la, (.slice va l.n vcap), .int .i64 l.m0, .int .i64 l.m1, .int .i64 l.so, .int .i64 l.h0, .int .i64 l.h1] 26) (.cells #[.int .i64 tb, .int .i64 tw, .int .i64 tq, .int .i64 ts] 57) #[.int .i64 d.c0, .int .i64 d.c1, .int .i64 d.f0, .int .i64 d.f1, .int .i64 d.wa, .bool d.cl] 30).alloc (.cells #[.int .i64 0, .int .i64 0, .int .i64 0, .int .i64 0] 57)
  have jR := Blk.new3 w (.cells #[.int .i64 l.gr, .int .i64 l.la, (.slice va l.n vcap), .int .i64 l.m0, .int .i64 l.m1, .int .i64 l.so, .int .i64 l.h0, .int .i64 l.h1] 26) (.cells #[.int .i64 tb, .int .i64 tw, .int .i64 tq, .int .i64 ts] 57) (.cells #[.int .i64 d.c0, .int .i64 d.c1, .int .i64 d.f0, .int .i64 d.f1, .int .i64 d.wa, .bool d.cl] 30) #[.int .i64 0, .int .i64 0, .int .i64 0, .int .i64 0] 57
  have HV := Lib.hid hv
  clear hv
  go_enter Try.func32, Try.ntmps32
  go_wp2_with fail
  refine (HIc.out _ hA0.seed).mono ?_
  rintro e w1 ⟨c, rfl, c0, c1, hd⟩
  replace jL := hd.blk jL (by omega)
  replace jT := hd.blk jT (by omega)
  replace jD := hd.blk jD (by omega)
  replace jR := hd.blk jR (by omega)
  have hA := hA0.trans hd
  clear hA0 hd
  go_upto_region 2 with fail
  go_cut [5, 6, 7, 8] (fun s5 s6 s7 s8 wx => ∃ f Q S : Int, s5 = .pointer (some ⟨w.heap.size, 0, none⟩) ∧ s6 = .pointer (some ⟨w.heap.size + 1, 0, none⟩) ∧ s7 = .pointer (some ⟨w.heap.size + 1 + 1, 0, none⟩) ∧ s8 = .pointer (some ⟨w.heap.size + 1 + 1 + 1, 0, none⟩) ∧ d.f0 ≤ f ∧ f ≤ d.f1 ∧ Q = wetP d.wa tq (snowP d.cl ts f) l.so ∧ S = leftP d.wa (snowP d.cl ts f) ∧ 0 ≤ Q ∧ Q ≤ 20100000 ∧ 0 ≤ S ∧ S ≤ 10001000 ∧ Blk wx w.heap.size #[.int .i64 l.gr, .int .i64 l.la, .slice va l.n vcap, .int .i64 l.m0, .int .i64 l.m1, .int .i64 l.so, .int .i64 l.h0, .int .i64 l.h1] 26 ∧ Blk wx (w.heap.size + 1) #[.int .i64 tb, .int .i64 tw, .int .i64 Q, .int .i64 S] 57 ∧ Blk wx (w.heap.size + 1 + 1 + 1) #[.int .i64 0, .int .i64 0, .int .i64 0, .int .i64 0] 57 ∧ Drawn bs w wx)
  case first =>
    have kT := jT.drew
    (
 refine wp_region_held_drew (S := (fun w' => Blk w' w.heap.size #[.int .i64 l.gr, .int .i64 l.la, .slice va l.n vcap, .int .i64 l.m0, .int .i64 l.m1, .int .i64 l.so, .int .i64 l.h0, .int .i64 l.h1] 26 ∧ Blk w' (w.heap.size + 1 + 1) #[.int .i64 d.c0, .int .i64 d.c1, .int .i64 d.f0, .int .i64 d.f1, .int .i64 d.wa, .bool d.cl] 30 ∧ Blk w' (w.heap.size + 1 + 1 + 1) #[.int .i64 0, .int .i64 0, .int .i64 0, .int .i64 0] 57 ∧ Drawn bs w w')) (by kernel_rfl) ?_ (fun hH => ?_)
 · (try dsimp only); (exact ⟨jL.drew, jD.drew, jR.drew, hA.trans (Drawn.drew hA.seed)⟩)
 refine tkY 0 (some 14) ?_ ?_ ?_
 rotate_left
 · intro w hS0; (try dsimp only at hS0); obtain ⟨kl, kd, _, _⟩ := hS0; obtain ⟨l0, l1, l2, l3, l4, l5, l6, l7⟩ := kl.c8; obtain ⟨q0, q1, q2, q3, q4, q5⟩ := kd.c6; have zl := kl.lt; have zd := kd.lt;go_simp; (try with_reducible rfl)
 (try simp only [cq])
 refine tkY 2 (some 16) ?_ ?_ ?_
 rotate_left
 · intro w hS0; (try dsimp only at hS0); obtain ⟨kl, kd, _, _⟩ := hS0; obtain ⟨l0, l1, l2, l3, l4, l5, l6, l7⟩ := kl.c8; obtain ⟨q0, q1, q2, q3, q4, q5⟩ := kd.c6; have zl := kl.lt; have zd := kd.lt;go_simp; (try with_reducible rfl)
 (try simp only [cq])
 refine tkY 3 (some 17) ?_ ?_ ?_
 rotate_left
 · intro w _; go_simp; (try with_reducible rfl)
 (try simp only [cq])
 refine tkY 4 (some 18) ?_ ?_ ?_
 rotate_left
 · intro w hS0; (try dsimp only at hS0); obtain ⟨kl, kd, _, _⟩ := hS0; obtain ⟨l0, l1, l2, l3, l4, l5, l6, l7⟩ := kl.c8; obtain ⟨q0, q1, q2, q3, q4, q5⟩ := kd.c6; have zl := kl.lt; have zd := kd.lt;go_simp; (try with_reducible rfl)
 (try simp only [cq])
 refine tkY 5 (some 19) ?_ ?_ ?_
 rotate_left
 · intro w hS0; (try dsimp only at hS0); obtain ⟨kl, kd, _, _⟩ := hS0; obtain ⟨l0, l1, l2, l3, l4, l5, l6, l7⟩ := kl.c8; obtain ⟨q0, q1, q2, q3, q4, q5⟩ := kd.c6; have zl := kl.lt; have zd := kd.lt;go_simp; (try with_reducible rfl)
 (try simp only [cq])
 refine wpAnyH_ready (rs := [1, 6]) (by kernel_rfl) (by simp) ?_
 refine arc (some 15) (fun K hK => ?_) ?_
 {
 obtain ⟨a0, a1, a2, a3⟩ := kT.c4
 have zT := kT.lt
 go_simp
 refine hK.out _ _ ?_ ?_
 · exact hH
 (try clear hH); (try clear hd); (try clear hb)
 intro hH
 clear a0 a1 a2 a3 zT
 clear hK K
 (try simp only [cq])
 refine wpAnyH_ready (rs := [6]) (by kernel_rfl) (by simp) ?_
 refine arc1 (some 20) fun K hK => ?_
 go_simp
 (refine (HIf.out _ hH.2.2.2.seed).mono ?_; rintro e w' ⟨f, rfl, f0, f1, hd⟩; replace kT := hd.blk kT (by omega))
 refine hK.out _ _ ?_ ?_
 · (exact ⟨hd.blk hH.1 (by omega), hd.blk hH.2.1 (by omega), hd.blk hH.2.2.1 (by omega), hH.2.2.2.trans hd⟩)
 (try clear hH); (try clear hd); (try clear hb)
 intro hH
 clear hK K
 (try simp only [cq])
 refine wpAnyH_ready (rs := [7]) (by kernel_rfl) (by simp) ?_
 refine arc1 (some 21) fun K hK => ?_
 go_simp
 (refine (HO.out f _ f0 f1).mono ?_; rintro e w' ⟨Q, S, rfl, hQ, hS, Q0, Q1, S0, S1, hb⟩; replace kT := kT.call hb; have HQ := Lib.hid (And.intro hQ hS); clear hQ hS)
 refine hK.out _ _ ?_ ?_
 · exact ⟨hH.1.call hb, hH.2.1.call hb, hH.2.2.1.call hb, hH.2.2.2.after hb⟩
 (try clear hH); (try clear hd); (try clear hb)
 intro hH
 clear hK K
 (try simp only [cq])
 refine wpAnyH_ready (rs := [8]) (by kernel_rfl) (by simp) ?_
 refine arc1 none fun K hK => ?_
 obtain ⟨g1, g2, g3, g5⟩ := hH
 obtain ⟨a0, a1, a2, a3⟩ := kT.c4
 have fr0 := kT.free 0
 have fr1 := kT.free 1
 have fr2 := kT.free 2
 have fr3 := kT.free 3
 have zT := kT.lt
 have HT4 := Lib.hid (kT.set4 (.int .i64 tb) (.int .i64 tw) (.int .i64 Q) (.int .i64 S))
 go_simp
 refine hK.out _ _ ?_ ?_
 · exact ⟨g1.other4 (by omega) _ _ _ _, g2.other4 (by omega) _ _ _ _, g3.other4 (by omega) _ _ _ _, g5.set4 (by omega) hbs _ _ _ _⟩
 (try clear hH); (try clear hd); (try clear hb)
 intro hH
 clear hK K
 (try simp only [cq])
 refine wpAnyH_done (by kernel_rfl) ?_ _
 (try dsimp only [Act.put])
 (try simp only [cq])
 clear a0 a1 a2 a3 fr0 fr1 fr2 fr3 zT g1 g2 g3 g5 kT
 go_wp2_with fail
 go_meet
 exact ⟨f, Q, S, rfl, rfl, rfl, rfl, f0, f1, HQ.out.1, HQ.out.2, Q0, Q1, S0, S1, hH.1, HT4.out, hH.2.2.1, hH.2.2.2⟩
 }
 refine arc (some 20) (fun K hK => ?_) ?_
 {
 go_simp
 (refine (HIf.out _ hH.2.2.2.seed).mono ?_; rintro e w' ⟨f, rfl, f0, f1, hd⟩; replace kT := hd.blk kT (by omega))
 refine hK.out _ _ ?_ ?_
 · (exact ⟨hd.blk hH.1 (by omega), hd.blk hH.2.1 (by omega), hd.blk hH.2.2.1 (by omega), hH.2.2.2.trans hd⟩)
 (try clear hH); (try clear hd); (try clear hb)
 intro hH
 clear hK K
 (try simp only [cq])
 refine wpAnyH_ready (rs := [1]) (by kernel_rfl) (by simp) ?_
 refine arc1 (some 15) fun K hK => ?_
 obtain ⟨a0, a1, a2, a3⟩ := kT.c4
 have zT := kT.lt
 go_simp
 refine hK.out _ _ ?_ ?_
 · exact hH
 (try clear hH); (try clear hd); (try clear hb)
 intro hH
 clear a0 a1 a2 a3 zT
 clear hK K
 (try simp only [cq])
 refine wpAnyH_ready (rs := [7]) (by kernel_rfl) (by simp) ?_
 refine arc1 (some 21) fun K hK => ?_
 go_simp
 (refine (HO.out f _ f0 f1).mono ?_; rintro e w' ⟨Q, S, rfl, hQ, hS, Q0, Q1, S0, S1, hb⟩; replace kT := kT.call hb; have HQ := Lib.hid (And.intro hQ hS); clear hQ hS)
 refine hK.out _ _ ?_ ?_
 · exact ⟨hH.1.call hb, hH.2.1.call hb, hH.2.2.1.call hb, hH.2.2.2.after hb⟩
 (try clear hH); (try clear hd); (try clear hb)
 intro hH
 clear hK K
 (try simp only [cq])
 refine wpAnyH_ready (rs := [8]) (by kernel_rfl) (by simp) ?_
 refine arc1 none fun K hK => ?_
 obtain ⟨g1, g2, g3, g5⟩ := hH
 obtain ⟨a0, a1, a2, a3⟩ := kT.c4
 have fr0 := kT.free 0
 have fr1 := kT.free 1
 have fr2 := kT.free 2
 have fr3 := kT.free 3
 have zT := kT.lt
 have HT4 := Lib.hid (kT.set4 (.int .i64 tb) (.int .i64 tw) (.int .i64 Q) (.int .i64 S))
 go_simp
 refine hK.out _ _ ?_ ?_
 · exact ⟨g1.other4 (by omega) _ _ _ _, g2.other4 (by omega) _ _ _ _, g3.other4 (by omega) _ _ _ _, g5.set4 (by omega) hbs _ _ _ _⟩
 (try clear hH); (try clear hd); (try clear hb)
 intro hH
 clear hK K
 (try simp only [cq])
 refine wpAnyH_done (by kernel_rfl) ?_ _
 (try dsimp only [Act.put])
 (try simp only [cq])
 clear a0 a1 a2 a3 fr0 fr1 fr2 fr3 zT g1 g2 g3 g5 kT
 go_wp2_with fail
 go_meet
 exact ⟨f, Q, S, rfl, rfl, rfl, rfl, f0, f1, HQ.out.1, HQ.out.2, Q0, Q1, S0, S1, hH.1, HT4.out, hH.2.2.1, hH.2.2.2⟩
 }
 exact AllReadyH.nil )
  case rest =>
    obtain ⟨f, Q, S, rfl, rfl, rfl, rfl, f0, f1, hQ, hS, Q0, Q1, S0, S1, jL, jT, jR, hA⟩ := hcut
    have HQ := Lib.hid (And.intro hQ hS)
    clear hQ hS jD
    by_cases hc : c < 0
    · have e1 : IntKind.i64.wrap (-c) = -c := IntWalk.i64_in _ (by omega)
      go_upto_region 4 with fail
      refine wp_region_held_drew (S := (fun w' => Blk w' w.heap.size #[.int .i64 l.gr, .int .i64 l.la, .slice va l.n vcap, .int .i64 l.m0, .int .i64 l.m1, .int .i64 l.so, .int .i64 l.h0, .int .i64 l.h1] 26 ∧ Blk w' (w.heap.size + 1) #[.int .i64 tb, .int .i64 tw, .int .i64 Q, .int .i64 S] 57 ∧ Four w' (w.heap.size + 1 + 1 + 1) 57 ∧ Drawn bs w w')) (by kernel_rfl) ?_ (fun hH => ?_)
      · (try dsimp only); (exact ⟨jL.drew, jT.drew, ⟨_, _, _, _, jR.drew⟩, hA.trans (Drawn.drew hA.seed)⟩)
      refine tkY 0 (some 24) ?_ ?_ ?_
      rotate_left
      · intro w hS0; (try dsimp only at hS0); obtain ⟨kl, kx, _, _⟩ := hS0; obtain ⟨l0, l1, l2, l3, l4, l5, l6, l7⟩ := kl.c8; obtain ⟨q0, q1, q2, q3⟩ := kx.c4; have zl := kl.lt; have zx := kx.lt;go_simp; (try with_reducible rfl)
      (try simp only [cq])
      refine tkY 1 (some 25) ?_ ?_ ?_
      rotate_left
      · intro w _; go_simp; (try with_reducible rfl)
      (try simp only [cq])
      refine tkY 2 (some 26) ?_ ?_ ?_
      rotate_left
      · intro w hS0; (try dsimp only at hS0); obtain ⟨kl, kx, _, _⟩ := hS0; obtain ⟨l0, l1, l2, l3, l4, l5, l6, l7⟩ := kl.c8; obtain ⟨q0, q1, q2, q3⟩ := kx.c4; have zl := kl.lt; have zx := kx.lt;go_simp; (try with_reducible rfl)
      (try simp only [cq])
      refine tkY 3 (some 27) ?_ ?_ ?_
      rotate_left
      · intro w _; go_simp; (try with_reducible rfl)
      (try simp only [cq])
      refine tkY 4 (some 28) ?_ ?_ ?_
      rotate_left
      · intro w _; go_simp; (try with_reducible rfl)
      (try simp only [cq])
      refine wpAnyH_ready (rs := [5]) (by kernel_rfl) (by simp) ?_
      refine arc1 (some 29) fun K hK => ?_
      go_simp
      (refine (HT.out c _ c0 hc).mono ?_; rintro e w' ⟨g0, g1, rfl, hg0, hg1, z0, z1, z2, hb⟩; have HG := Lib.hid (And.intro hg0 hg1); clear hg0 hg1)
      refine hK.out _ _ ?_ ?_
      · exact ⟨hH.1.call hb, hH.2.1.call hb, hH.2.2.1.call hb, hH.2.2.2.after hb⟩
      (try clear hH); (try clear hd); (try clear hb)
      intro hH
      clear hK K
      (try simp only [cq])
      refine wpAnyH_ready (rs := [6]) (by kernel_rfl) (by simp) ?_
      refine arc1 (some 30) fun K hK => ?_
      go_simp
      (refine (inside_in g0 g1 bs _ hH.2.2.2.seed (by omega) (by omega) z1).mono ?_; rintro e w' ⟨n, rfl, n0, n1, hd⟩)
      refine hK.out _ _ ?_ ?_
      · (exact ⟨hd.blk hH.1 (by omega), hd.blk hH.2.1 (by omega), Four.drawn hd hH.2.2.1 (by omega), hH.2.2.2.trans hd⟩)
      (try clear hH); (try clear hd); (try clear hb)
      intro hH
      clear hK K
      (try simp only [cq])
      refine wpAnyH_ready (rs := [7]) (by kernel_rfl) (by simp) ?_
      refine arc1 (some 31) fun K hK => ?_
      go_simp
      (refine (HM.out Q S n _ S0 S1 (by omega) (by omega)).mono ?_; rintro e w' ⟨rfl, hb⟩)
      refine hK.out _ _ ?_ ?_
      · exact ⟨hH.1.call hb, hH.2.1.call hb, hH.2.2.1.call hb, hH.2.2.2.after hb⟩
      (try clear hH); (try clear hd); (try clear hb)
      intro hH
      clear hK K
      (try simp only [cq])
      refine wpAnyH_ready (rs := [8]) (by kernel_rfl) (by simp) ?_
      refine arc1 none fun K hK => ?_
      obtain ⟨g1, g2, ⟨p0, p1, p2, p3, kR⟩, g5⟩ := hH
      obtain ⟨a0, a1, a2, a3⟩ := kR.c4
      have fr0 := kR.free 0
      have fr1 := kR.free 1
      have fr2 := kR.free 2
      have fr3 := kR.free 3
      have zR := kR.lt
      have HR4 := Lib.hid (kR.set4 (.int .i64 (mD tb (mD (mD n S) tw))) (.int .i64 (mD tw (mD n S))) (.int .i64 Q) (.int .i64 (mD S n)))
      go_simp
      refine hK.out _ _ ?_ ?_
      · exact ⟨g1.other4 (by omega) _ _ _ _, g2.other4 (by omega) _ _ _ _, ⟨_, _, _, _, HR4.out⟩, g5.set4 (by omega) hbs _ _ _ _⟩
      (try clear hH); (try clear hd); (try clear hb)
      intro hH
      clear hK K
      (try simp only [cq])
      refine wpAnyH_done (by kernel_rfl) ?_ _
      (try dsimp only [Act.put])
      (try simp only [cq])
      obtain ⟨z0, z1, z2, z3⟩ := HR4.out.c4
      have hD := hH.2.2.2
      rw [HG.out.1] at n0
      rw [HG.out.2] at n1
      have hT := HWarm.out c f n Q S c0 c1 f0 f1 hc n0 n1 HQ.out.1 HQ.out.2
      clear hH a0 a1 a2 a3 fr0 fr1 fr2 fr3 zR g1 g2 kR g5 n0 n1
      go_wp2
      exact bodyPost_ret (v := .agg #[.int .i64 (mD tb (mD (mD n S) tw)), .int .i64 (mD tw (mD n S)), .int .i64 Q, .int .i64 (mD S n)]) (by simp [results, Try.results32, go_sem, z0, z1, z2, z3]) rfl ⟨_, _, _, _, rfl, hT, hD⟩
    · go_upto_region 5 with fail
      refine wp_region_held_drew (S := (fun w' => Blk w' w.heap.size #[.int .i64 l.gr, .int .i64 l.la, .slice va l.n vcap, .int .i64 l.m0, .int .i64 l.m1, .int .i64 l.so, .int .i64 l.h0, .int .i64 l.h1] 26 ∧ Blk w' (w.heap.size + 1) #[.int .i64 tb, .int .i64 tw, .int .i64 Q, .int .i64 S] 57 ∧ Four w' (w.heap.size + 1 + 1 + 1) 57 ∧ Drawn bs w w')) (by kernel_rfl) ?_ (fun hH => ?_)
      · (try dsimp only); (exact ⟨jL.drew, jT.drew, ⟨_, _, _, _, jR.drew⟩, hA.trans (Drawn.drew hA.seed)⟩)
      refine tkY 0 (some 32) ?_ ?_ ?_
      rotate_left
      · intro w hS0; (try dsimp only at hS0); obtain ⟨kl, kx, _, _⟩ := hS0; obtain ⟨l0, l1, l2, l3, l4, l5, l6, l7⟩ := kl.c8; obtain ⟨q0, q1, q2, q3⟩ := kx.c4; have zl := kl.lt; have zx := kx.lt;go_simp; (try with_reducible rfl)
      (try simp only [cq])
      refine tkY 1 (some 33) ?_ ?_ ?_
      rotate_left
      · intro w hS0; (try dsimp only at hS0); obtain ⟨kl, kx, _, _⟩ := hS0; obtain ⟨l0, l1, l2, l3, l4, l5, l6, l7⟩ := kl.c8; obtain ⟨q0, q1, q2, q3⟩ := kx.c4; have zl := kl.lt; have zx := kx.lt;go_simp; (try with_reducible rfl)
      (try simp only [cq])
      refine tkY 2 (some 34) ?_ ?_ ?_
      rotate_left
      · intro w _; go_simp; (try with_reducible rfl)
      (try simp only [cq])
      refine tkY 3 (some 35) ?_ ?_ ?_
      rotate_left
      · intro w hS0; (try dsimp only at hS0); obtain ⟨kl, kx, _, _⟩ := hS0; obtain ⟨l0, l1, l2, l3, l4, l5, l6, l7⟩ := kl.c8; obtain ⟨q0, q1, q2, q3⟩ := kx.c4; have zl := kl.lt; have zx := kx.lt;go_simp; (try with_reducible rfl)
      (try simp only [cq])
      refine tkY 4 (some 36) ?_ ?_ ?_
      rotate_left
      · intro w hS0; (try dsimp only at hS0); obtain ⟨kl, kx, _, _⟩ := hS0; obtain ⟨l0, l1, l2, l3, l4, l5, l6, l7⟩ := kl.c8; obtain ⟨q0, q1, q2, q3⟩ := kx.c4; have zl := kl.lt; have zx := kx.lt;go_simp; (try with_reducible rfl)
      (try simp only [cq])
      refine tkY 5 (some 37) ?_ ?_ ?_
      rotate_left
      · intro w hS0; (try dsimp only at hS0); obtain ⟨kl, kx, _, _⟩ := hS0; obtain ⟨l0, l1, l2, l3, l4, l5, l6, l7⟩ := kl.c8; obtain ⟨q0, q1, q2, q3⟩ := kx.c4; have zl := kl.lt; have zx := kx.lt;go_simp; (try with_reducible rfl)
      (try simp only [cq])
      refine tkY 6 (some 38) ?_ ?_ ?_
      rotate_left
      · intro w _; go_simp; (try with_reducible rfl)
      (try simp only [cq])
      refine tkY 9 (some 41) ?_ ?_ ?_
      rotate_left
      · intro w _; go_simp; (try with_reducible rfl)
      (try simp only [cq])
      refine wpAnyH_ready (rs := [7]) (by kernel_rfl) (by simp) ?_
      refine arc1 (some 39) fun K hK => ?_
      go_simp
      (refine (HTh.out S c _ (by omega) c1 (HV.out.drawn hs hH.2.2.2)).mono ?_; rintro e w' ⟨g0, g1, rfl, hg0, hg1, z0, z1, z2, hb⟩; have HG := Lib.hid (And.intro hg0 hg1); clear hg0 hg1)
      refine hK.out _ _ ?_ ?_
      · exact ⟨hH.1.call hb, hH.2.1.call hb, hH.2.2.1.call hb, hH.2.2.2.after hb⟩
      (try clear hH); (try clear hd); (try clear hb)
      intro hH
      clear hK K
      (try simp only [cq])
      refine wpAnyH_ready (rs := [8]) (by kernel_rfl) (by simp) ?_
      refine arc1 (some 40) fun K hK => ?_
      go_simp
      (refine (inside_in g0 g1 bs _ hH.2.2.2.seed (by omega) (by omega) z1).mono ?_; rintro e w' ⟨n, rfl, n0, n1, hd⟩)
      refine hK.out _ _ ?_ ?_
      · (exact ⟨hd.blk hH.1 (by omega), hd.blk hH.2.1 (by omega), Four.drawn hd hH.2.2.1 (by omega), hH.2.2.2.trans hd⟩)
      (try clear hH); (try clear hd); (try clear hb)
      intro hH
      clear hK K
      (try simp only [cq])
      refine wpAnyH_ready (rs := [10]) (by kernel_rfl) (by simp) ?_
      refine arc1 (some 42) fun K hK => ?_
      go_simp
      (refine (yes_in 2 bs _ hH.2.2.2.seed (by decide)).mono ?_; rintro e w' ⟨up, rfl, hd⟩)
      refine hK.out _ _ ?_ ?_
      · (exact ⟨hd.blk hH.1 (by omega), hd.blk hH.2.1 (by omega), Four.drawn hd hH.2.2.1 (by omega), hH.2.2.2.trans hd⟩)
      (try clear hH); (try clear hd); (try clear hb)
      intro hH
      clear hK K
      (try simp only [cq])
      refine wpAnyH_ready (rs := [11]) (by kernel_rfl) (by simp) ?_
      refine arc1 (some 43) fun K hK => ?_
      go_simp
      (refine (HF.out Q S n up _ Q0 Q1 (by omega) (by omega)).mono ?_; rintro e w' ⟨R, b1, hR, hb1, rfl, hb⟩; have HR := Lib.hid (And.intro hR hb1); clear hR hb1)
      refine hK.out _ _ ?_ ?_
      · exact ⟨hH.1.call hb, hH.2.1.call hb, hH.2.2.1.call hb, hH.2.2.2.after hb⟩
      (try clear hH); (try clear hd); (try clear hb)
      intro hH
      clear hK K
      (try simp only [cq])
      refine wpAnyH_ready (rs := [12]) (by kernel_rfl) (by simp) ?_
      refine arc1 none fun K hK => ?_
      obtain ⟨g1, g2, ⟨p0, p1, p2, p3, kR⟩, g5⟩ := hH
      obtain ⟨a0, a1, a2, a3⟩ := kR.c4
      have fr0 := kR.free 0
      have fr1 := kR.free 1
      have fr2 := kR.free 2
      have fr3 := kR.free 3
      have zR := kR.lt
      have HR4 := Lib.hid (kR.set4 (.int .i64 b1) (.int .i64 (tw + min Q (n / l.la))) (.int .i64 (Q - min Q (n / l.la))) (.int .i64 S))
      go_simp
      refine hK.out _ _ ?_ ?_
      · exact ⟨g1.other4 (by omega) _ _ _ _, g2.other4 (by omega) _ _ _ _, ⟨_, _, _, _, HR4.out⟩, g5.set4 (by omega) hbs _ _ _ _⟩
      (try clear hH); (try clear hd); (try clear hb)
      intro hH
      clear hK K
      (try simp only [cq])
      refine wpAnyH_done (by kernel_rfl) ?_ _
      (try dsimp only [Act.put])
      (try simp only [cq])
      obtain ⟨z0, z1, z2, z3⟩ := HR4.out.c4
      have hD := hH.2.2.2
      rw [HG.out.1] at n0
      rw [HG.out.2] at n1
      have hT := HCold.out c f n Q S c0 c1 f0 f1 (by omega) HQ.out.1 HQ.out.2 n0 n1 R HR.out.1
      rw [← HR.out.2] at hT
      clear hH a0 a1 a2 a3 fr0 fr1 fr2 fr3 zR g1 g2 kR g5 n0 n1
      go_wp2
      exact bodyPost_ret (v := .agg #[.int .i64 b1, .int .i64 (tw + min Q (n / l.la)), .int .i64 (Q - min Q (n / l.la)), .int .i64 S]) (by simp [results, Try.results32, go_sem, z0, z1, z2, z3]) rfl ⟨_, _, _, _, rfl, hT, hD⟩
end Go.Proofs.Ytkldjaofgdklbaa

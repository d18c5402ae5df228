/-
  The reference's verdicts (layer 3), where all is valid.
-/
import Derived.Test.YtfakmggabicdjaaTail
import Derived.Test.YtfakmggabicdjaaRB4
import Derived.Test.YtfakmggabicdjaaShare
set_option linter.unusedVariables false
set_option linter.unusedSimpArgs false
namespace Go.Proofs.Ytfakmggabicdjaa
open Go.RowKit

theorem blk_ne2 {w : World} {a b : Nat} {C D : Array Value} {t s : TypeId} (h : Blk w a C t) (k : Blk w b D s) (ht : t ≠ s) : a ≠ b := by
  intro e
  subst e
  have q : some (Obj.cells C t (0, 0)) = some (Obj.cells D s (0, 0)) := h.symm.trans k
  simp at q
  exact ht q.2
theorem blk_set2 {w : World} {b : Nat} {x y : Value} {t : TypeId} (h : Blk w b #[x, y] t) (u v : Value) : Blk ((w.setCell ⟨b, 0, none⟩ u).setCell ⟨b, 1, none⟩ v) b #[u, v] t := ((h.set 0 u).set 1 v).eq (by simp)

set_option maxRecDepth 100000 in
set_option maxHeartbeats 16000000 in
theorem rverdict_any (p : Pl) (vS vC vI vK vL : Value) (ni : Nat) (I0 I1 : Nat → Int) (nc : Nat) (C0 C1 : Nat → Int) (n : Nat) (L : Nat → Ld) (hp : p.Ok) (hni : ni ≤ 1000) (hi : ∀ i, i < ni → 0 ≤ I0 i ∧ I0 i ≤ I1 i ∧ I1 i ≤ 5000) (hc : ∀ j, j < nc → 0 ≤ C0 j ∧ C0 j ≤ C1 j ∧ C1 j ≤ 1000000000) (hn : LoadsIn n L) (k0 : Nat) (hk0 : k0 < n) (hme : (L k0).me < 100 * (ni : Int)) (w : World)
    (hS : TabAt w vS p.S) (hC : TabAt w vC p.C) (hI : PairsAt w vI ni I0 I1) (hK : PairsAt w vK nc C0 C1) (hL : LoadsAt w vL n L) :
    Calls Try.prog 91 #[.agg #[.int .i64 p.s0, .int .i64 p.s1, vS, vC, .int .i64 p.ne, .int .i64 p.ed, .int .i64 p.gr, .int .i64 p.lo, .int .i64 p.hi, .int .i64 p.sh, .int .i64 p.wi], vI, vK, vL, .int .i64 k0] w fun e w' => e = .returned (.int .i64 (verdV p I0 I1 nc C0 C1 n L (L k0))) ∧ Below w.heap.size w w' := by
  have HBd0 : Hid (∀ W, Below w.heap.size w W → Calls Try.prog 129 #[.agg #[.int .i64 p.s0, .int .i64 p.s1, vS, vC, .int .i64 p.ne, .int .i64 p.ed, .int .i64 p.gr, .int .i64 p.lo, .int .i64 p.hi, .int .i64 p.sh, .int .i64 p.wi], vL, .int .i64 k0] W fun e w' => e = .returned (.agg #[.int .i64 (burdV p true n L (L k0).me), .int .i64 (burdV p false n L (L k0).me)]) ∧ Below W.heap.size W w') := fun W hW => rburd_any p hp vS vC vL n L hn k0 hk0 W (PairsAt.later hS hW) (PairsAt.later hC hW) (hL.later hW)
  obtain ⟨aS, cS, rfl, _, _, _⟩ := id hS
  obtain ⟨aC, cC, rfl, _, _, _⟩ := id hC
  obtain ⟨aI, cI, rfl, hcI, hmI, hI3⟩ := id hI
  obtain ⟨aK, cK, rfl, _, _, _⟩ := id hK
  obtain ⟨aL, cL, rfl, hcL, hmL, h3⟩ := id hL
  obtain ⟨b, o, rfl, hlc⟩ := h3 (by omega)
  obtain ⟨l0, l1, l2, l3⟩ := hlc k0 hk0
  have qk := hn.each k0 hk0
  have bd := fun b => burd_in hp b hn.n30 (fun i hi => ⟨(hn.each i hi).1, (hn.each i hi).2.1, (hn.each i hi).2.2.1⟩) (L k0).me n (Nat.le_refl _)
  obtain ⟨x, hx⟩ : ∃ x, L k0 = x := ⟨_, rfl⟩
  rw [hx] at l0 l1 l2 l3 qk hme HBd0 bd ⊢
  obtain ⟨j, hj⟩ : ∃ j : Nat, x.me / 100 = (j : Int) := ⟨(x.me / 100).toNat, by omega⟩
  have hjn : j < ni := by omega
  have et : IntKind.i64.wrap (x.me.tdiv 100) = (j : Int) := by rw [Int.tdiv_eq_ediv_of_nonneg (by omega), hj]; exact IntWalk.i64_in _ (by omega)
  have hjc : (j : Int) < (ni : Int) := by omega
  obtain ⟨bI, oI, rfl, hic⟩ := hI3 (by omega)
  have HIc := Lib.hid (hic j hjn)
  have hij := hi j hjn
  have cv0 := hp.C.val_in x.st
  have hk0n : (k0 : Int) < (n : Int) := by omega
  have HPt : Hid (∀ W, Below w.heap.size w W → Calls Try.prog 109 #[.slice aC p.C.n cC, .int .i64 x.st] W fun e w' => e = .returned (.int .i64 (p.C.val x.st)) ∧ Below W.heap.size W w') := fun W hW => rpart_any _ p.C _ W (PairsAt.later hC hW) hp.C.n1 (by rw [hp.C.f0]; omega)
  have HN1 : Hid (∀ W, Below w.heap.size w W → Calls Try.prog 132 #[.agg #[.int .i64 p.s0, .int .i64 p.s1, (.slice aS p.S.n cS), (.slice aC p.C.n cC), .int .i64 p.ne, .int .i64 p.ed, .int .i64 p.gr, .int .i64 p.lo, .int .i64 p.hi, .int .i64 p.sh, .int .i64 p.wi], .slice aK nc cK, .int .i64 x.me] W fun e w' => e = .returned (.bool (nearV p false nc C0 C1 x.me)) ∧ Below W.heap.size W w') := fun W hW => rmay_any p _ _ _ nc C0 C1 x.me W (PairsAt.later hS hW) (PairsAt.later hC hW) (hK.later hW) (by omega) ⟨hp.ne0, hp.ne1⟩ hc
  have HN2 : Hid (∀ W, Below w.heap.size w W → Calls Try.prog 133 #[.agg #[.int .i64 p.s0, .int .i64 p.s1, (.slice aS p.S.n cS), (.slice aC p.C.n cC), .int .i64 p.ne, .int .i64 p.ed, .int .i64 p.gr, .int .i64 p.lo, .int .i64 p.hi, .int .i64 p.sh, .int .i64 p.wi], .slice aK nc cK, .int .i64 x.me] W fun e w' => e = .returned (.bool (nearV p true nc C0 C1 x.me)) ∧ Below W.heap.size W w') := fun W hW => rmust_any p _ _ _ nc C0 C1 x.me W (PairsAt.later hS hW) (PairsAt.later hC hW) (hK.later hW) (by omega) ⟨hp.ne0, hp.ne1⟩ hc
  have HT1 : Hid (∀ W, Below w.heap.size w W → Calls Try.prog 131 #[.agg #[.int .i64 p.s0, .int .i64 p.s1, (.slice aS p.S.n cS), (.slice aC p.C.n cC), .int .i64 p.ne, .int .i64 p.ed, .int .i64 p.gr, .int .i64 p.lo, .int .i64 p.hi, .int .i64 p.sh, .int .i64 p.wi], .int .i64 (I0 j), .bool (nearV p false nc C0 C1 x.me)] W fun e w' => e = .returned (.int .i64 (thinV p (nearV p false nc C0 C1 x.me) (I0 j))) ∧ Below W.heap.size W w') := fun W hW => rthick_any p _ _ _ _ (by omega) ⟨hp.ed0, hp.ed1⟩ W (PairsAt.later hS hW) (PairsAt.later hC hW)
  have HT2 : Hid (∀ W, Below w.heap.size w W → Calls Try.prog 131 #[.agg #[.int .i64 p.s0, .int .i64 p.s1, (.slice aS p.S.n cS), (.slice aC p.C.n cC), .int .i64 p.ne, .int .i64 p.ed, .int .i64 p.gr, .int .i64 p.lo, .int .i64 p.hi, .int .i64 p.sh, .int .i64 p.wi], .int .i64 (I1 j), .bool (nearV p true nc C0 C1 x.me)] W fun e w' => e = .returned (.int .i64 (thinV p (nearV p true nc C0 C1 x.me) (I1 j))) ∧ Below W.heap.size W w') := fun W hW => rthick_any p _ _ _ _ (by omega) ⟨hp.ed0, hp.ed1⟩ W (PairsAt.later hS hW) (PairsAt.later hC hW)
  have t1 := thin_in hp.ed0 hp.ed1 (nearV p false nc C0 C1 x.me) (x := I0 j) (by omega)
  have t2 := thin_in hp.ed0 hp.ed1 (nearV p true nc C0 C1 x.me) (x := I1 j) (by omega)
  have s0 := hp.s0
  have s1 := hp.s1
  have s01 := hp.s01
  have HB1 : Hid (∀ W, Calls Try.prog 130 #[.int .i64 (burdV p false n L x.me), .int .i64 p.s0, .int .i64 (thinV p (nearV p false nc C0 C1 x.me) (I0 j)), .int .i64 (p.C.val x.st)] W fun e w' => e = .returned (.bool (bearsV p false I0 I1 nc C0 C1 n L x)) ∧ Below W.heap.size W w') := fun W => by
    have q := rborne_any (burdV p false n L x.me) p.s0 (thinV p (nearV p false nc C0 C1 x.me) (I0 j)) (p.C.val x.st) (bd false) (by omega) ⟨t1.1, by omega⟩ cv0 W
    have e : bearsV p false I0 I1 nc C0 C1 n L x = decide (burdV p false n L x.me * 1000000 ≤ p.s0 * thinV p (nearV p false nc C0 C1 x.me) (I0 j) * thinV p (nearV p false nc C0 C1 x.me) (I0 j) * p.C.val x.st) := by
      unfold bearsV limV thickV
      rw [hj]
      simp [endV]
    rw [e]
    exact q
  have HB2 : Hid (∀ W, Calls Try.prog 130 #[.int .i64 (burdV p true n L x.me), .int .i64 p.s1, .int .i64 (thinV p (nearV p true nc C0 C1 x.me) (I1 j)), .int .i64 (p.C.val x.st)] W fun e w' => e = .returned (.bool (bearsV p true I0 I1 nc C0 C1 n L x)) ∧ Below W.heap.size W w') := fun W => by
    have q := rborne_any (burdV p true n L x.me) p.s1 (thinV p (nearV p true nc C0 C1 x.me) (I1 j)) (p.C.val x.st) (bd true) (by omega) ⟨t2.1, by omega⟩ cv0 W
    have e : bearsV p true I0 I1 nc C0 C1 n L x = decide (burdV p true n L x.me * 1000000 ≤ p.s1 * thinV p (nearV p true nc C0 C1 x.me) (I1 j) * thinV p (nearV p true nc C0 C1 x.me) (I1 j) * p.C.val x.st) := by
      unfold bearsV limV thickV
      rw [hj]
      simp [endV]
    rw [e]
    exact q
  have HR : Hid (verdV p I0 I1 nc C0 C1 n L x = if bearsV p false I0 I1 nc C0 C1 n L x then 1 else if bearsV p true I0 I1 nc C0 C1 n L x then 3 else 2) := rfl
  generalize verdV p I0 I1 nc C0 C1 n L x = r at HR ⊢
  generalize bearsV p false I0 I1 nc C0 C1 n L x = B1 at HB1 HR
  generalize bearsV p true I0 I1 nc C0 C1 n L x = B2 at HB2 HR
  generalize thinV p (nearV p false nc C0 C1 x.me) (I0 j) = h1 at HT1 HB1
  generalize thinV p (nearV p true nc C0 C1 x.me) (I1 j) = h2 at HT2 HB2
  generalize nearV p false nc C0 C1 x.me = m1 at HN1 HT1
  generalize nearV p true nc C0 C1 x.me = m2 at HN2 HT2
  have HBd := Lib.hid HBd0.out
  clear HBd0 bd
  generalize burdV p false n L x.me = u1 at HBd HB1
  generalize burdV p true n L x.me = u0 at HBd HB2
  generalize p.C.val x.st = cv at HPt HB1 HB2
  generalize I0 j = i0 at HT1 HIc
  generalize I1 j = i1 at HT2 HIc
  clear hS hC hI hK hL h3 hlc hI3 hic hij hi hc hn hx hj qk hme cv0 t1 t2 s0 s1 s01 hp
  have jP := Blk.new w #[.int .i64 p.s0, .int .i64 p.s1, (.slice aS p.S.n cS), (.slice aC p.C.n cC), .int .i64 p.ne, .int .i64 p.ed, .int .i64 p.gr, .int .i64 p.lo, .int .i64 p.hi, .int .i64 p.sh, .int .i64 p.wi] 26
  have jB : Below w.heap.size w (w.alloc (.cells #[.int .i64 p.s0, .int .i64 p.s1, (.slice aS p.S.n cS), (.slice aC p.C.n cC), .int .i64 p.ne, .int .i64 p.ed, .int .i64 p.gr, .int .i64 p.lo, .int .i64 p.hi, .int .i64 p.sh, .int .i64 p.wi] 26)) := by (repeat (first | exact Below.refl _ _ | assumption | refine Below.drew ?_ | refine Below.drewN ?_ _ | refine blT ?_ | refine blU ?_))
  replace l0 := cell_later jB l0
  replace l1 := cell_later jB l1
  replace l2 := cell_later jB l2
  replace l3 := cell_later jB l3
  have zl := World.block_lt_of_cell? _ _ l0
  go_enter Try.func91, Try.ntmps91
  have jX := Blk.new1 w (.cells #[.int .i64 p.s0, .int .i64 p.s1, (.slice aS p.S.n cS), (.slice aC p.C.n cC), .int .i64 p.ne, .int .i64 p.ed, .int .i64 p.gr, .int .i64 p.lo, .int .i64 p.hi, .int .i64 p.sh, .int .i64 p.wi] 26) #[.int .i64 x.me, .int .i64 x.w0, .int .i64 x.w1, .int .i64 x.st] 53
  go_upto_region 2 with fail
  clear l0 l1 l2 l3 zl
  replace jP := jP.alloc (.cells #[.int .i64 x.me, .int .i64 x.w0, .int .i64 x.w1, .int .i64 x.st] 53)
  replace jB := bwA jB (by first | exact Nat.le_refl _ | (simp; done) | (simp; omega)) (.cells #[.int .i64 x.me, .int .i64 x.w0, .int .i64 x.w1, .int .i64 x.st] 53)
  obtain ⟨bP, hbP⟩ : ∃ b, w.heap.size = b := ⟨_, rfl⟩
  obtain ⟨bX, hbX⟩ : ∃ b, bP + 1 = b := ⟨_, rfl⟩
  rw [hbP] at jP jX
  (try rw [hbP])
  rw [hbX] at jX
  (try rw [hbX])
  have HBP := Lib.hid (And.intro hbP hbX)
  clear hbP hbX
  generalize (w.alloc (.cells #[.int .i64 p.s0, .int .i64 p.s1, (.slice aS p.S.n cS), (.slice aC p.C.n cC), .int .i64 p.ne, .int .i64 p.ed, .int .i64 p.gr, .int .i64 p.lo, .int .i64 p.hi, .int .i64 p.sh, .int .i64 p.wi] 26)).alloc (.cells #[.int .i64 x.me, .int .i64 x.w0, .int .i64 x.w1, .int .i64 x.st] 53) = V at jP jX jB ⊢
  go_cut [12, 13, 14] (fun s12 s13 s14 wx => ∃ b12 b14 : Nat, s12 = .pointer (some ⟨b12, 0, none⟩) ∧ s13 = .int .i64 cv ∧ s14 = .pointer (some ⟨b14, 0, none⟩) ∧ Blk wx b12 #[.int .i64 i0, .int .i64 i1] 23 ∧ Blk wx b14 #[.int .i64 u0, .int .i64 u1] 23 ∧ Blk wx bP #[.int .i64 p.s0, .int .i64 p.s1, (.slice aS p.S.n cS), (.slice aC p.C.n cC), .int .i64 p.ne, .int .i64 p.ed, .int .i64 p.gr, .int .i64 p.lo, .int .i64 p.hi, .int .i64 p.sh, .int .i64 p.wi] 26 ∧ Blk wx bX #[.int .i64 x.me, .int .i64 x.w0, .int .i64 x.w1, .int .i64 x.st] 53 ∧ Below w.heap.size w wx)
  case first =>
    (
 refine wp_region_held_drew (S := (fun v => Blk v bP #[.int .i64 p.s0, .int .i64 p.s1, (.slice aS p.S.n cS), (.slice aC p.C.n cC), .int .i64 p.ne, .int .i64 p.ed, .int .i64 p.gr, .int .i64 p.lo, .int .i64 p.hi, .int .i64 p.sh, .int .i64 p.wi] 26 ∧ Blk v bX #[.int .i64 x.me, .int .i64 x.w0, .int .i64 x.w1, .int .i64 x.st] 53 ∧ Below w.heap.size w v)) (by kernel_rfl) ?_ (fun hH => ?_)
 · (try dsimp only); (exact ⟨jP.drew, jX.drew, jB.drew⟩)
 refine tkY 0 (some 19) ?_ ?_ ?_
 rotate_left
 · intro w _; go_simp; (try with_reducible rfl)
 (try simp only [cq])
 refine tkY 1 (some 20) ?_ ?_ ?_
 rotate_left
 · intro w hS0; (try dsimp only at hS0); obtain ⟨kP, kX, kB⟩ := hS0; obtain ⟨c0, c1, c2, c3, c4, c5, c6, c7, c8, c9, c10⟩ := kP.c11; obtain ⟨x0, x1, x2, x3⟩ := kX.c4; have g0 := cell_later kB HIc.out.1; have g1 := cell_later kB HIc.out.2; have y0 := kP.lt; have y1 := kX.lt; have y2 := World.block_lt_of_cell? _ _ g0;go_simp; (try with_reducible rfl)
 (try simp only [cq])
 refine tkY 2 (some 21) ?_ ?_ ?_
 rotate_left
 · intro w hS0; (try dsimp only at hS0); obtain ⟨kP, kX, kB⟩ := hS0; obtain ⟨c0, c1, c2, c3, c4, c5, c6, c7, c8, c9, c10⟩ := kP.c11; obtain ⟨x0, x1, x2, x3⟩ := kX.c4; have g0 := cell_later kB HIc.out.1; have g1 := cell_later kB HIc.out.2; have y0 := kP.lt; have y1 := kX.lt; have y2 := World.block_lt_of_cell? _ _ g0;go_simp; (try with_reducible rfl)
 (try simp only [cq])
 refine tkY 3 (some 22) ?_ ?_ ?_
 rotate_left
 · intro w _; go_simp; (try with_reducible rfl)
 (try simp only [cq])
 refine tkY 4 (some 23) ?_ ?_ ?_
 rotate_left
 · intro w hS0; (try dsimp only at hS0); obtain ⟨kP, kX, kB⟩ := hS0; obtain ⟨c0, c1, c2, c3, c4, c5, c6, c7, c8, c9, c10⟩ := kP.c11; obtain ⟨x0, x1, x2, x3⟩ := kX.c4; have g0 := cell_later kB HIc.out.1; have g1 := cell_later kB HIc.out.2; have y0 := kP.lt; have y1 := kX.lt; have y2 := World.block_lt_of_cell? _ _ g0;go_simp; (try with_reducible rfl)
 (try simp only [cq])
 refine tkY 5 (some 24) ?_ ?_ ?_
 rotate_left
 · intro w hS0; (try dsimp only at hS0); obtain ⟨kP, kX, kB⟩ := hS0; obtain ⟨c0, c1, c2, c3, c4, c5, c6, c7, c8, c9, c10⟩ := kP.c11; obtain ⟨x0, x1, x2, x3⟩ := kX.c4; have g0 := cell_later kB HIc.out.1; have g1 := cell_later kB HIc.out.2; have y0 := kP.lt; have y1 := kX.lt; have y2 := World.block_lt_of_cell? _ _ g0;go_simp; (try with_reducible rfl)
 (try simp only [cq])
 refine tkY 6 (some 25) ?_ ?_ ?_
 rotate_left
 · intro w hS0; (try dsimp only at hS0); obtain ⟨kP, kX, kB⟩ := hS0; obtain ⟨c0, c1, c2, c3, c4, c5, c6, c7, c8, c9, c10⟩ := kP.c11; obtain ⟨x0, x1, x2, x3⟩ := kX.c4; have g0 := cell_later kB HIc.out.1; have g1 := cell_later kB HIc.out.2; have y0 := kP.lt; have y1 := kX.lt; have y2 := World.block_lt_of_cell? _ _ g0;go_simp; (try with_reducible rfl)
 (try simp only [cq])
 refine tkY 7 (some 26) ?_ ?_ ?_
 rotate_left
 · intro w hS0; (try dsimp only at hS0); obtain ⟨kP, kX, kB⟩ := hS0; obtain ⟨c0, c1, c2, c3, c4, c5, c6, c7, c8, c9, c10⟩ := kP.c11; obtain ⟨x0, x1, x2, x3⟩ := kX.c4; have g0 := cell_later kB HIc.out.1; have g1 := cell_later kB HIc.out.2; have y0 := kP.lt; have y1 := kX.lt; have y2 := World.block_lt_of_cell? _ _ g0;go_simp; (try with_reducible rfl)
 (try simp only [cq])
 refine tkY 8 (some 27) ?_ ?_ ?_
 rotate_left
 · intro w hS0; (try dsimp only at hS0); obtain ⟨kP, kX, kB⟩ := hS0; obtain ⟨c0, c1, c2, c3, c4, c5, c6, c7, c8, c9, c10⟩ := kP.c11; obtain ⟨x0, x1, x2, x3⟩ := kX.c4; have g0 := cell_later kB HIc.out.1; have g1 := cell_later kB HIc.out.2; have y0 := kP.lt; have y1 := kX.lt; have y2 := World.block_lt_of_cell? _ _ g0;go_simp; (try with_reducible rfl)
 (try simp only [cq])
 refine tkY 9 (some 28) ?_ ?_ ?_
 rotate_left
 · intro w hS0; (try dsimp only at hS0); obtain ⟨kP, kX, kB⟩ := hS0; obtain ⟨c0, c1, c2, c3, c4, c5, c6, c7, c8, c9, c10⟩ := kP.c11; obtain ⟨x0, x1, x2, x3⟩ := kX.c4; have g0 := cell_later kB HIc.out.1; have g1 := cell_later kB HIc.out.2; have y0 := kP.lt; have y1 := kX.lt; have y2 := World.block_lt_of_cell? _ _ g0;go_simp; (try with_reducible rfl)
 (try simp only [cq])
 refine tkY 11 (some 30) ?_ ?_ ?_
 rotate_left
 · intro w hS0; (try dsimp only at hS0); obtain ⟨kP, kX, kB⟩ := hS0; obtain ⟨c0, c1, c2, c3, c4, c5, c6, c7, c8, c9, c10⟩ := kP.c11; obtain ⟨x0, x1, x2, x3⟩ := kX.c4; have g0 := cell_later kB HIc.out.1; have g1 := cell_later kB HIc.out.2; have y0 := kP.lt; have y1 := kX.lt; have y2 := World.block_lt_of_cell? _ _ g0;go_simp; (try with_reducible rfl)
 (try simp only [cq])
 refine tkY 12 (some 31) ?_ ?_ ?_
 rotate_left
 · intro w _; go_simp; (try with_reducible rfl)
 (try simp only [cq])
 refine tkY 13 (some 32) ?_ ?_ ?_
 rotate_left
 · intro w _; go_simp; (try with_reducible rfl)
 (try simp only [cq])
 refine wpAnyH_ready (rs := [10, 15, 16]) (by kernel_rfl) (by simp) ?_
 refine arc (some 29) (fun K hK => ?_) ?_
 {
 go_simp
 (refine (HPt.out _ hH.2.2).mono ?_; rintro e w' ⟨rfl, hb⟩; (try replace k12 := k12.call hb); (try replace k14 := k14.call hb))
 refine hK.out _ _ ?_ ?_
 · (exact ⟨hH.1.call hb, hH.2.1.call hb, bwS hH.2.2 (Nat.le_refl _) hb⟩)
 (try clear hH); (try clear hb)
 intro hH
 clear hK K
 (try simp only [cq])
 refine wpAnyH_ready (rs := [14, 15, 16]) (by kernel_rfl) (by simp) ?_
 refine arc (some 33) (fun K hK => ?_) ?_
 {
 go_simp
 (refine (HBd.out _ hH.2.2).mono ?_; rintro e w' ⟨rfl, hb⟩; (try replace k12 := k12.call hb); (try replace k14 := k14.call hb))
 refine hK.out _ _ ?_ ?_
 · (exact ⟨hH.1.call hb, hH.2.1.call hb, bwS hH.2.2 (Nat.le_refl _) hb⟩)
 (try clear hH); (try clear hb)
 intro hH
 clear hK K
 (try simp only [cq])
 refine wpAnyH_ready (rs := [15, 16]) (by kernel_rfl) (by simp) ?_
 refine arc (some 12) (fun K hK => ?_) ?_
 {
 have zz := hH.2.2.size
 (try have zq := k14.lt)
 go_simp
 first | refine oA hK ?_ (fun hH hA => ?_) | refine oD hK ?_ (fun hH hA => ?_)
 · exact ⟨hH.1.alloc _, hH.2.1.alloc _, bwA hH.2.2 (Nat.le_refl _) _⟩
 have k12 := hA
 clear hA
 obtain ⟨bk12, hbk12⟩ : ∃ b, Blk.num k12 = b := ⟨_, rfl⟩
 obtain ⟨Wn, hWn⟩ : ∃ V, Blk.wld k12 = V := ⟨_, rfl⟩
 simp only [Blk.num] at hbk12
 simp only [Blk.wld] at hWn
 (try replace k14 := awB hWn k14)
 rw [hWn] at hH k12 ⊢
 have zk12 : w.heap.size ≤ bk12 := by rw [← hbk12]; exact zz
 (try have yk12 : bk14 < bk12 := by rw [← hbk12]; exact zq)
 rw [hbk12] at k12 ⊢
 clear hbk12 hWn zz
 (try clear zq)
 clear hK K
 (try simp only [cq])
 refine wpAnyH_ready (rs := [16]) (by kernel_rfl) (by simp) ?_
 refine arc1 (some 14) fun K hK => ?_
 have zz := hH.2.2.size
 (try have zq := k12.lt)
 go_simp
 first | refine oA hK ?_ (fun hH hA => ?_) | refine oD hK ?_ (fun hH hA => ?_)
 · exact ⟨hH.1.alloc _, hH.2.1.alloc _, bwA hH.2.2 (Nat.le_refl _) _⟩
 have k14 := hA
 clear hA
 obtain ⟨bk14, hbk14⟩ : ∃ b, Blk.num k14 = b := ⟨_, rfl⟩
 obtain ⟨Wn, hWn⟩ : ∃ V, Blk.wld k14 = V := ⟨_, rfl⟩
 simp only [Blk.num] at hbk14
 simp only [Blk.wld] at hWn
 (try replace k12 := awB hWn k12)
 rw [hWn] at hH k14 ⊢
 have zk14 : w.heap.size ≤ bk14 := by rw [← hbk14]; exact zz
 (try have yk14 : bk12 < bk14 := by rw [← hbk14]; exact zq)
 rw [hbk14] at k14 ⊢
 clear hbk14 hWn zz
 (try clear zq)
 clear hK K
 (try simp only [cq])
 refine wpAnyH_ready (rs := [17]) (by kernel_rfl) (by simp) ?_
 refine arc1 none fun K hK => ?_
 obtain ⟨q0, q1⟩ := k12.c2
 have f0 := k12.free 0
 have f1 := k12.free 1
 have zb := k12.lt
 have nP := blk_ne2 hH.1 k12 (by decide)
 have nX := blk_ne2 hH.2.1 k12 (by decide)
 have nO : bk14 ≠ bk12 := by omega
 have HG := Lib.hid (And.intro ((hH.1.other ⟨bk12, 0, none⟩ (.int .i64 i0) nP).other ⟨bk12, 1, none⟩ (.int .i64 i1) nP) (And.intro ((hH.2.1.other ⟨bk12, 0, none⟩ (.int .i64 i0) nX).other ⟨bk12, 1, none⟩ (.int .i64 i1) nX) ((hH.2.2.setCell (p := ⟨bk12, 0, none⟩) zk12 (.int .i64 i0)).setCell (p := ⟨bk12, 1, none⟩) zk12 (.int .i64 i1))))
 have HK1 := Lib.hid (blk_set2 k12 (.int .i64 i0) (.int .i64 i1))
 have HK2 := Lib.hid ((k14.other ⟨bk12, 0, none⟩ (.int .i64 i0) nO).other ⟨bk12, 1, none⟩ (.int .i64 i1) nO)
 clear nP nX nO
 go_simp
 refine hK.out _ _ ?_ ?_
 · exact HG.out
 (try clear hH); (try clear hb)
 intro hH
 replace k12 := HK1.out
 replace k14 := HK2.out
 clear HG HK1 HK2 q0 q1 f0 f1 zb
 clear hK K
 (try simp only [cq])
 refine tkY 18 (some 13) ?_ ?_ ?_
 rotate_left
 · intro w _; go_simp; (try with_reducible rfl)
 (try simp only [cq])
 refine wpAnyH_ready (rs := [19]) (by kernel_rfl) (by simp) ?_
 refine arc1 none fun K hK => ?_
 obtain ⟨q0, q1⟩ := k14.c2
 have f0 := k14.free 0
 have f1 := k14.free 1
 have zb := k14.lt
 have nP := blk_ne2 hH.1 k14 (by decide)
 have nX := blk_ne2 hH.2.1 k14 (by decide)
 have nO : bk12 ≠ bk14 := by omega
 have HG := Lib.hid (And.intro ((hH.1.other ⟨bk14, 0, none⟩ (.int .i64 u0) nP).other ⟨bk14, 1, none⟩ (.int .i64 u1) nP) (And.intro ((hH.2.1.other ⟨bk14, 0, none⟩ (.int .i64 u0) nX).other ⟨bk14, 1, none⟩ (.int .i64 u1) nX) ((hH.2.2.setCell (p := ⟨bk14, 0, none⟩) zk14 (.int .i64 u0)).setCell (p := ⟨bk14, 1, none⟩) zk14 (.int .i64 u1))))
 have HK1 := Lib.hid (blk_set2 k14 (.int .i64 u0) (.int .i64 u1))
 have HK2 := Lib.hid ((k12.other ⟨bk14, 0, none⟩ (.int .i64 u0) nO).other ⟨bk14, 1, none⟩ (.int .i64 u1) nO)
 clear nP nX nO
 go_simp
 refine hK.out _ _ ?_ ?_
 · exact HG.out
 (try clear hH); (try clear hb)
 intro hH
 replace k14 := HK1.out
 replace k12 := HK2.out
 clear HG HK1 HK2 q0 q1 f0 f1 zb
 clear hK K
 (try simp only [cq])
 refine wpAnyH_done (by kernel_rfl) ?_ _
 (try dsimp only [Act.put])
 (try simp only [cq])
 go_wp2_with fail
 go_meet
 exact ⟨bk12, bk14, rfl, rfl, rfl, k12, k14, hH⟩
 }
 refine arc (some 14) (fun K hK => ?_) ?_
 {
 have zz := hH.2.2.size
 (try have zq := k12.lt)
 go_simp
 first | refine oA hK ?_ (fun hH hA => ?_) | refine oD hK ?_ (fun hH hA => ?_)
 · exact ⟨hH.1.alloc _, hH.2.1.alloc _, bwA hH.2.2 (Nat.le_refl _) _⟩
 have k14 := hA
 clear hA
 obtain ⟨bk14, hbk14⟩ : ∃ b, Blk.num k14 = b := ⟨_, rfl⟩
 obtain ⟨Wn, hWn⟩ : ∃ V, Blk.wld k14 = V := ⟨_, rfl⟩
 simp only [Blk.num] at hbk14
 simp only [Blk.wld] at hWn
 (try replace k12 := awB hWn k12)
 rw [hWn] at hH k14 ⊢
 have zk14 : w.heap.size ≤ bk14 := by rw [← hbk14]; exact zz
 (try have yk14 : bk12 < bk14 := by rw [← hbk14]; exact zq)
 rw [hbk14] at k14 ⊢
 clear hbk14 hWn zz
 (try clear zq)
 clear hK K
 (try simp only [cq])
 refine wpAnyH_ready (rs := [15]) (by kernel_rfl) (by simp) ?_
 refine arc1 (some 12) fun K hK => ?_
 have zz := hH.2.2.size
 (try have zq := k14.lt)
 go_simp
 first | refine oA hK ?_ (fun hH hA => ?_) | refine oD hK ?_ (fun hH hA => ?_)
 · exact ⟨hH.1.alloc _, hH.2.1.alloc _, bwA hH.2.2 (Nat.le_refl _) _⟩
 have k12 := hA
 clear hA
 obtain ⟨bk12, hbk12⟩ : ∃ b, Blk.num k12 = b := ⟨_, rfl⟩
 obtain ⟨Wn, hWn⟩ : ∃ V, Blk.wld k12 = V := ⟨_, rfl⟩
 simp only [Blk.num] at hbk12
 simp only [Blk.wld] at hWn
 (try replace k14 := awB hWn k14)
 rw [hWn] at hH k12 ⊢
 have zk12 : w.heap.size ≤ bk12 := by rw [← hbk12]; exact zz
 (try have yk12 : bk14 < bk12 := by rw [← hbk12]; exact zq)
 rw [hbk12] at k12 ⊢
 clear hbk12 hWn zz
 (try clear zq)
 clear hK K
 (try simp only [cq])
 refine wpAnyH_ready (rs := [17]) (by kernel_rfl) (by simp) ?_
 refine arc1 none fun K hK => ?_
 obtain ⟨q0, q1⟩ := k12.c2
 have f0 := k12.free 0
 have f1 := k12.free 1
 have zb := k12.lt
 have nP := blk_ne2 hH.1 k12 (by decide)
 have nX := blk_ne2 hH.2.1 k12 (by decide)
 have nO : bk14 ≠ bk12 := by omega
 have HG := Lib.hid (And.intro ((hH.1.other ⟨bk12, 0, none⟩ (.int .i64 i0) nP).other ⟨bk12, 1, none⟩ (.int .i64 i1) nP) (And.intro ((hH.2.1.other ⟨bk12, 0, none⟩ (.int .i64 i0) nX).other ⟨bk12, 1, none⟩ (.int .i64 i1) nX) ((hH.2.2.setCell (p := ⟨bk12, 0, none⟩) zk12 (.int .i64 i0)).setCell (p := ⟨bk12, 1, none⟩) zk12 (.int .i64 i1))))
 have HK1 := Lib.hid (blk_set2 k12 (.int .i64 i0) (.int .i64 i1))
 have HK2 := Lib.hid ((k14.other ⟨bk12, 0, none⟩ (.int .i64 i0) nO).other ⟨bk12, 1, none⟩ (.int .i64 i1) nO)
 clear nP nX nO
 go_simp
 refine hK.out _ _ ?_ ?_
 · exact HG.out
 (try clear hH); (try clear hb)
 intro hH
 replace k12 := HK1.out
 replace k14 := HK2.out
 clear HG HK1 HK2 q0 q1 f0 f1 zb
 clear hK K
 (try simp only [cq])
 refine tkY 18 (some 13) ?_ ?_ ?_
 rotate_left
 · intro w _; go_simp; (try with_reducible rfl)
 (try simp only [cq])
 refine wpAnyH_ready (rs := [19]) (by kernel_rfl) (by simp) ?_
 refine arc1 none fun K hK => ?_
 obtain ⟨q0, q1⟩ := k14.c2
 have f0 := k14.free 0
 have f1 := k14.free 1
 have zb := k14.lt
 have nP := blk_ne2 hH.1 k14 (by decide)
 have nX := blk_ne2 hH.2.1 k14 (by decide)
 have nO : bk12 ≠ bk14 := by omega
 have HG := Lib.hid (And.intro ((hH.1.other ⟨bk14, 0, none⟩ (.int .i64 u0) nP).other ⟨bk14, 1, none⟩ (.int .i64 u1) nP) (And.intro ((hH.2.1.other ⟨bk14, 0, none⟩ (.int .i64 u0) nX).other ⟨bk14, 1, none⟩ (.int .i64 u1) nX) ((hH.2.2.setCell (p := ⟨bk14, 0, none⟩) zk14 (.int .i64 u0)).setCell (p := ⟨bk14, 1, none⟩) zk14 (.int .i64 u1))))
 have HK1 := Lib.hid (blk_set2 k14 (.int .i64 u0) (.int .i64 u1))
 have HK2 := Lib.hid ((k12.other ⟨bk14, 0, none⟩ (.int .i64 u0) nO).other ⟨bk14, 1, none⟩ (.int .i64 u1) nO)
 clear nP nX nO
 go_simp
 refine hK.out _ _ ?_ ?_
 · exact HG.out
 (try clear hH); (try clear hb)
 intro hH
 replace k14 := HK1.out
 replace k12 := HK2.out
 clear HG HK1 HK2 q0 q1 f0 f1 zb
 clear hK K
 (try simp only [cq])
 refine wpAnyH_done (by kernel_rfl) ?_ _
 (try dsimp only [Act.put])
 (try simp only [cq])
 go_wp2_with fail
 go_meet
 exact ⟨bk12, bk14, rfl, rfl, rfl, k12, k14, hH⟩
 }
 exact AllReadyH.nil
 }
 refine arc (some 12) (fun K hK => ?_) ?_
 {
 have zz := hH.2.2.size
 (try have zq := k14.lt)
 go_simp
 first | refine oA hK ?_ (fun hH hA => ?_) | refine oD hK ?_ (fun hH hA => ?_)
 · exact ⟨hH.1.alloc _, hH.2.1.alloc _, bwA hH.2.2 (Nat.le_refl _) _⟩
 have k12 := hA
 clear hA
 obtain ⟨bk12, hbk12⟩ : ∃ b, Blk.num k12 = b := ⟨_, rfl⟩
 obtain ⟨Wn, hWn⟩ : ∃ V, Blk.wld k12 = V := ⟨_, rfl⟩
 simp only [Blk.num] at hbk12
 simp only [Blk.wld] at hWn
 (try replace k14 := awB hWn k14)
 rw [hWn] at hH k12 ⊢
 have zk12 : w.heap.size ≤ bk12 := by rw [← hbk12]; exact zz
 (try have yk12 : bk14 < bk12 := by rw [← hbk12]; exact zq)
 rw [hbk12] at k12 ⊢
 clear hbk12 hWn zz
 (try clear zq)
 clear hK K
 (try simp only [cq])
 refine wpAnyH_ready (rs := [14, 16]) (by kernel_rfl) (by simp) ?_
 refine arc (some 33) (fun K hK => ?_) ?_
 {
 go_simp
 (refine (HBd.out _ hH.2.2).mono ?_; rintro e w' ⟨rfl, hb⟩; (try replace k12 := k12.call hb); (try replace k14 := k14.call hb))
 refine hK.out _ _ ?_ ?_
 · (exact ⟨hH.1.call hb, hH.2.1.call hb, bwS hH.2.2 (Nat.le_refl _) hb⟩)
 (try clear hH); (try clear hb)
 intro hH
 clear hK K
 (try simp only [cq])
 refine wpAnyH_ready (rs := [16]) (by kernel_rfl) (by simp) ?_
 refine arc1 (some 14) fun K hK => ?_
 have zz := hH.2.2.size
 (try have zq := k12.lt)
 go_simp
 first | refine oA hK ?_ (fun hH hA => ?_) | refine oD hK ?_ (fun hH hA => ?_)
 · exact ⟨hH.1.alloc _, hH.2.1.alloc _, bwA hH.2.2 (Nat.le_refl _) _⟩
 have k14 := hA
 clear hA
 obtain ⟨bk14, hbk14⟩ : ∃ b, Blk.num k14 = b := ⟨_, rfl⟩
 obtain ⟨Wn, hWn⟩ : ∃ V, Blk.wld k14 = V := ⟨_, rfl⟩
 simp only [Blk.num] at hbk14
 simp only [Blk.wld] at hWn
 (try replace k12 := awB hWn k12)
 rw [hWn] at hH k14 ⊢
 have zk14 : w.heap.size ≤ bk14 := by rw [← hbk14]; exact zz
 (try have yk14 : bk12 < bk14 := by rw [← hbk14]; exact zq)
 rw [hbk14] at k14 ⊢
 clear hbk14 hWn zz
 (try clear zq)
 clear hK K
 (try simp only [cq])
 refine wpAnyH_ready (rs := [17]) (by kernel_rfl) (by simp) ?_
 refine arc1 none fun K hK => ?_
 obtain ⟨q0, q1⟩ := k12.c2
 have f0 := k12.free 0
 have f1 := k12.free 1
 have zb := k12.lt
 have nP := blk_ne2 hH.1 k12 (by decide)
 have nX := blk_ne2 hH.2.1 k12 (by decide)
 have nO : bk14 ≠ bk12 := by omega
 have HG := Lib.hid (And.intro ((hH.1.other ⟨bk12, 0, none⟩ (.int .i64 i0) nP).other ⟨bk12, 1, none⟩ (.int .i64 i1) nP) (And.intro ((hH.2.1.other ⟨bk12, 0, none⟩ (.int .i64 i0) nX).other ⟨bk12, 1, none⟩ (.int .i64 i1) nX) ((hH.2.2.setCell (p := ⟨bk12, 0, none⟩) zk12 (.int .i64 i0)).setCell (p := ⟨bk12, 1, none⟩) zk12 (.int .i64 i1))))
 have HK1 := Lib.hid (blk_set2 k12 (.int .i64 i0) (.int .i64 i1))
 have HK2 := Lib.hid ((k14.other ⟨bk12, 0, none⟩ (.int .i64 i0) nO).other ⟨bk12, 1, none⟩ (.int .i64 i1) nO)
 clear nP nX nO
 go_simp
 refine hK.out _ _ ?_ ?_
 · exact HG.out
 (try clear hH); (try clear hb)
 intro hH
 replace k12 := HK1.out
 replace k14 := HK2.out
 clear HG HK1 HK2 q0 q1 f0 f1 zb
 clear hK K
 (try simp only [cq])
 refine tkY 18 (some 13) ?_ ?_ ?_
 rotate_left
 · intro w _; go_simp; (try with_reducible rfl)
 (try simp only [cq])
 refine wpAnyH_ready (rs := [19]) (by kernel_rfl) (by simp) ?_
 refine arc1 none fun K hK => ?_
 obtain ⟨q0, q1⟩ := k14.c2
 have f0 := k14.free 0
 have f1 := k14.free 1
 have zb := k14.lt
 have nP := blk_ne2 hH.1 k14 (by decide)
 have nX := blk_ne2 hH.2.1 k14 (by decide)
 have nO : bk12 ≠ bk14 := by omega
 have HG := Lib.hid (And.intro ((hH.1.other ⟨bk14, 0, none⟩ (.int .i64 u0) nP).other ⟨bk14, 1, none⟩ (.int .i64 u1) nP) (And.intro ((hH.2.1.other ⟨bk14, 0, none⟩ (.int .i64 u0) nX).other ⟨bk14, 1, none⟩ (.int .i64 u1) nX) ((hH.2.2.setCell (p := ⟨bk14, 0, none⟩) zk14 (.int .i64 u0)).setCell (p := ⟨bk14, 1, none⟩) zk14 (.int .i64 u1))))
 have HK1 := Lib.hid (blk_set2 k14 (.int .i64 u0) (.int .i64 u1))
 have HK2 := Lib.hid ((k12.other ⟨bk14, 0, none⟩ (.int .i64 u0) nO).other ⟨bk14, 1, none⟩ (.int .i64 u1) nO)
 clear nP nX nO
 go_simp
 refine hK.out _ _ ?_ ?_
 · exact HG.out
 (try clear hH); (try clear hb)
 intro hH
 replace k14 := HK1.out
 replace k12 := HK2.out
 clear HG HK1 HK2 q0 q1 f0 f1 zb
 clear hK K
 (try simp only [cq])
 refine wpAnyH_done (by kernel_rfl) ?_ _
 (try dsimp only [Act.put])
 (try simp only [cq])
 go_wp2_with fail
 go_meet
 exact ⟨bk12, bk14, rfl, rfl, rfl, k12, k14, hH⟩
 }
 refine arc (some 14) (fun K hK => ?_) ?_
 {
 have zz := hH.2.2.size
 (try have zq := k12.lt)
 go_simp
 first | refine oA hK ?_ (fun hH hA => ?_) | refine oD hK ?_ (fun hH hA => ?_)
 · exact ⟨hH.1.alloc _, hH.2.1.alloc _, bwA hH.2.2 (Nat.le_refl _) _⟩
 have k14 := hA
 clear hA
 obtain ⟨bk14, hbk14⟩ : ∃ b, Blk.num k14 = b := ⟨_, rfl⟩
 obtain ⟨Wn, hWn⟩ : ∃ V, Blk.wld k14 = V := ⟨_, rfl⟩
 simp only [Blk.num] at hbk14
 simp only [Blk.wld] at hWn
 (try replace k12 := awB hWn k12)
 rw [hWn] at hH k14 ⊢
 have zk14 : w.heap.size ≤ bk14 := by rw [← hbk14]; exact zz
 (try have yk14 : bk12 < bk14 := by rw [← hbk14]; exact zq)
 rw [hbk14] at k14 ⊢
 clear hbk14 hWn zz
 (try clear zq)
 clear hK K
 (try simp only [cq])
 refine wpAnyH_ready (rs := [14]) (by kernel_rfl) (by simp) ?_
 refine arc1 (some 33) fun K hK => ?_
 go_simp
 (refine (HBd.out _ hH.2.2).mono ?_; rintro e w' ⟨rfl, hb⟩; (try replace k12 := k12.call hb); (try replace k14 := k14.call hb))
 refine hK.out _ _ ?_ ?_
 · (exact ⟨hH.1.call hb, hH.2.1.call hb, bwS hH.2.2 (Nat.le_refl _) hb⟩)
 (try clear hH); (try clear hb)
 intro hH
 clear hK K
 (try simp only [cq])
 refine wpAnyH_ready (rs := [17]) (by kernel_rfl) (by simp) ?_
 refine arc1 none fun K hK => ?_
 obtain ⟨q0, q1⟩ := k12.c2
 have f0 := k12.free 0
 have f1 := k12.free 1
 have zb := k12.lt
 have nP := blk_ne2 hH.1 k12 (by decide)
 have nX := blk_ne2 hH.2.1 k12 (by decide)
 have nO : bk14 ≠ bk12 := by omega
 have HG := Lib.hid (And.intro ((hH.1.other ⟨bk12, 0, none⟩ (.int .i64 i0) nP).other ⟨bk12, 1, none⟩ (.int .i64 i1) nP) (And.intro ((hH.2.1.other ⟨bk12, 0, none⟩ (.int .i64 i0) nX).other ⟨bk12, 1, none⟩ (.int .i64 i1) nX) ((hH.2.2.setCell (p := ⟨bk12, 0, none⟩) zk12 (.int .i64 i0)).setCell (p := ⟨bk12, 1, none⟩) zk12 (.int .i64 i1))))
 have HK1 := Lib.hid (blk_set2 k12 (.int .i64 i0) (.int .i64 i1))
 have HK2 := Lib.hid ((k14.other ⟨bk12, 0, none⟩ (.int .i64 i0) nO).other ⟨bk12, 1, none⟩ (.int .i64 i1) nO)
 clear nP nX nO
 go_simp
 refine hK.out _ _ ?_ ?_
 · exact HG.out
 (try clear hH); (try clear hb)
 intro hH
 replace k12 := HK1.out
 replace k14 := HK2.out
 clear HG HK1 HK2 q0 q1 f0 f1 zb
 clear hK K
 (try simp only [cq])
 refine tkY 18 (some 13) ?_ ?_ ?_
 rotate_left
 · intro w _; go_simp; (try with_reducible rfl)
 (try simp only [cq])
 refine wpAnyH_ready (rs := [19]) (by kernel_rfl) (by simp) ?_
 refine arc1 none fun K hK => ?_
 obtain ⟨q0, q1⟩ := k14.c2
 have f0 := k14.free 0
 have f1 := k14.free 1
 have zb := k14.lt
 have nP := blk_ne2 hH.1 k14 (by decide)
 have nX := blk_ne2 hH.2.1 k14 (by decide)
 have nO : bk12 ≠ bk14 := by omega
 have HG := Lib.hid (And.intro ((hH.1.other ⟨bk14, 0, none⟩ (.int .i64 u0) nP).other ⟨bk14, 1, none⟩ (.int .i64 u1) nP) (And.intro ((hH.2.1.other ⟨bk14, 0, none⟩ (.int .i64 u0) nX).other ⟨bk14, 1, none⟩ (.int .i64 u1) nX) ((hH.2.2.setCell (p := ⟨bk14, 0, none⟩) zk14 (.int .i64 u0)).setCell (p := ⟨bk14, 1, none⟩) zk14 (.int .i64 u1))))
 have HK1 := Lib.hid (blk_set2 k14 (.int .i64 u0) (.int .i64 u1))
 have HK2 := Lib.hid ((k12.other ⟨bk14, 0, none⟩ (.int .i64 u0) nO).other ⟨bk14, 1, none⟩ (.int .i64 u1) nO)
 clear nP nX nO
 go_simp
 refine hK.out _ _ ?_ ?_
 · exact HG.out
 (try clear hH); (try clear hb)
 intro hH
 replace k14 := HK1.out
 replace k12 := HK2.out
 clear HG HK1 HK2 q0 q1 f0 f1 zb
 clear hK K
 (try simp only [cq])
 refine wpAnyH_done (by kernel_rfl) ?_ _
 (try dsimp only [Act.put])
 (try simp only [cq])
 go_wp2_with fail
 go_meet
 exact ⟨bk12, bk14, rfl, rfl, rfl, k12, k14, hH⟩
 }
 exact AllReadyH.nil
 }
 refine arc (some 14) (fun K hK => ?_) ?_
 {
 have zz := hH.2.2.size
 (try have zq := k12.lt)
 go_simp
 first | refine oA hK ?_ (fun hH hA => ?_) | refine oD hK ?_ (fun hH hA => ?_)
 · exact ⟨hH.1.alloc _, hH.2.1.alloc _, bwA hH.2.2 (Nat.le_refl _) _⟩
 have k14 := hA
 clear hA
 obtain ⟨bk14, hbk14⟩ : ∃ b, Blk.num k14 = b := ⟨_, rfl⟩
 obtain ⟨Wn, hWn⟩ : ∃ V, Blk.wld k14 = V := ⟨_, rfl⟩
 simp only [Blk.num] at hbk14
 simp only [Blk.wld] at hWn
 (try replace k12 := awB hWn k12)
 rw [hWn] at hH k14 ⊢
 have zk14 : w.heap.size ≤ bk14 := by rw [← hbk14]; exact zz
 (try have yk14 : bk12 < bk14 := by rw [← hbk14]; exact zq)
 rw [hbk14] at k14 ⊢
 clear hbk14 hWn zz
 (try clear zq)
 clear hK K
 (try simp only [cq])
 refine wpAnyH_ready (rs := [14, 15]) (by kernel_rfl) (by simp) ?_
 refine arc (some 33) (fun K hK => ?_) ?_
 {
 go_simp
 (refine (HBd.out _ hH.2.2).mono ?_; rintro e w' ⟨rfl, hb⟩; (try replace k12 := k12.call hb); (try replace k14 := k14.call hb))
 refine hK.out _ _ ?_ ?_
 · (exact ⟨hH.1.call hb, hH.2.1.call hb, bwS hH.2.2 (Nat.le_refl _) hb⟩)
 (try clear hH); (try clear hb)
 intro hH
 clear hK K
 (try simp only [cq])
 refine wpAnyH_ready (rs := [15]) (by kernel_rfl) (by simp) ?_
 refine arc1 (some 12) fun K hK => ?_
 have zz := hH.2.2.size
 (try have zq := k14.lt)
 go_simp
 first | refine oA hK ?_ (fun hH hA => ?_) | refine oD hK ?_ (fun hH hA => ?_)
 · exact ⟨hH.1.alloc _, hH.2.1.alloc _, bwA hH.2.2 (Nat.le_refl _) _⟩
 have k12 := hA
 clear hA
 obtain ⟨bk12, hbk12⟩ : ∃ b, Blk.num k12 = b := ⟨_, rfl⟩
 obtain ⟨Wn, hWn⟩ : ∃ V, Blk.wld k12 = V := ⟨_, rfl⟩
 simp only [Blk.num] at hbk12
 simp only [Blk.wld] at hWn
 (try replace k14 := awB hWn k14)
 rw [hWn] at hH k12 ⊢
 have zk12 : w.heap.size ≤ bk12 := by rw [← hbk12]; exact zz
 (try have yk12 : bk14 < bk12 := by rw [← hbk12]; exact zq)
 rw [hbk12] at k12 ⊢
 clear hbk12 hWn zz
 (try clear zq)
 clear hK K
 (try simp only [cq])
 refine wpAnyH_ready (rs := [17]) (by kernel_rfl) (by simp) ?_
 refine arc1 none fun K hK => ?_
 obtain ⟨q0, q1⟩ := k12.c2
 have f0 := k12.free 0
 have f1 := k12.free 1
 have zb := k12.lt
 have nP := blk_ne2 hH.1 k12 (by decide)
 have nX := blk_ne2 hH.2.1 k12 (by decide)
 have nO : bk14 ≠ bk12 := by omega
 have HG := Lib.hid (And.intro ((hH.1.other ⟨bk12, 0, none⟩ (.int .i64 i0) nP).other ⟨bk12, 1, none⟩ (.int .i64 i1) nP) (And.intro ((hH.2.1.other ⟨bk12, 0, none⟩ (.int .i64 i0) nX).other ⟨bk12, 1, none⟩ (.int .i64 i1) nX) ((hH.2.2.setCell (p := ⟨bk12, 0, none⟩) zk12 (.int .i64 i0)).setCell (p := ⟨bk12, 1, none⟩) zk12 (.int .i64 i1))))
 have HK1 := Lib.hid (blk_set2 k12 (.int .i64 i0) (.int .i64 i1))
 have HK2 := Lib.hid ((k14.other ⟨bk12, 0, none⟩ (.int .i64 i0) nO).other ⟨bk12, 1, none⟩ (.int .i64 i1) nO)
 clear nP nX nO
 go_simp
 refine hK.out _ _ ?_ ?_
 · exact HG.out
 (try clear hH); (try clear hb)
 intro hH
 replace k12 := HK1.out
 replace k14 := HK2.out
 clear HG HK1 HK2 q0 q1 f0 f1 zb
 clear hK K
 (try simp only [cq])
 refine tkY 18 (some 13) ?_ ?_ ?_
 rotate_left
 · intro w _; go_simp; (try with_reducible rfl)
 (try simp only [cq])
 refine wpAnyH_ready (rs := [19]) (by kernel_rfl) (by simp) ?_
 refine arc1 none fun K hK => ?_
 obtain ⟨q0, q1⟩ := k14.c2
 have f0 := k14.free 0
 have f1 := k14.free 1
 have zb := k14.lt
 have nP := blk_ne2 hH.1 k14 (by decide)
 have nX := blk_ne2 hH.2.1 k14 (by decide)
 have nO : bk12 ≠ bk14 := by omega
 have HG := Lib.hid (And.intro ((hH.1.other ⟨bk14, 0, none⟩ (.int .i64 u0) nP).other ⟨bk14, 1, none⟩ (.int .i64 u1) nP) (And.intro ((hH.2.1.other ⟨bk14, 0, none⟩ (.int .i64 u0) nX).other ⟨bk14, 1, none⟩ (.int .i64 u1) nX) ((hH.2.2.setCell (p := ⟨bk14, 0, none⟩) zk14 (.int .i64 u0)).setCell (p := ⟨bk14, 1, none⟩) zk14 (.int .i64 u1))))
 have HK1 := Lib.hid (blk_set2 k14 (.int .i64 u0) (.int .i64 u1))
 have HK2 := Lib.hid ((k12.other ⟨bk14, 0, none⟩ (.int .i64 u0) nO).other ⟨bk14, 1, none⟩ (.int .i64 u1) nO)
 clear nP nX nO
 go_simp
 refine hK.out _ _ ?_ ?_
 · exact HG.out
 (try clear hH); (try clear hb)
 intro hH
 replace k14 := HK1.out
 replace k12 := HK2.out
 clear HG HK1 HK2 q0 q1 f0 f1 zb
 clear hK K
 (try simp only [cq])
 refine wpAnyH_done (by kernel_rfl) ?_ _
 (try dsimp only [Act.put])
 (try simp only [cq])
 go_wp2_with fail
 go_meet
 exact ⟨bk12, bk14, rfl, rfl, rfl, k12, k14, hH⟩
 }
 refine arc (some 12) (fun K hK => ?_) ?_
 {
 have zz := hH.2.2.size
 (try have zq := k14.lt)
 go_simp
 first | refine oA hK ?_ (fun hH hA => ?_) | refine oD hK ?_ (fun hH hA => ?_)
 · exact ⟨hH.1.alloc _, hH.2.1.alloc _, bwA hH.2.2 (Nat.le_refl _) _⟩
 have k12 := hA
 clear hA
 obtain ⟨bk12, hbk12⟩ : ∃ b, Blk.num k12 = b := ⟨_, rfl⟩
 obtain ⟨Wn, hWn⟩ : ∃ V, Blk.wld k12 = V := ⟨_, rfl⟩
 simp only [Blk.num] at hbk12
 simp only [Blk.wld] at hWn
 (try replace k14 := awB hWn k14)
 rw [hWn] at hH k12 ⊢
 have zk12 : w.heap.size ≤ bk12 := by rw [← hbk12]; exact zz
 (try have yk12 : bk14 < bk12 := by rw [← hbk12]; exact zq)
 rw [hbk12] at k12 ⊢
 clear hbk12 hWn zz
 (try clear zq)
 clear hK K
 (try simp only [cq])
 refine wpAnyH_ready (rs := [14]) (by kernel_rfl) (by simp) ?_
 refine arc1 (some 33) fun K hK => ?_
 go_simp
 (refine (HBd.out _ hH.2.2).mono ?_; rintro e w' ⟨rfl, hb⟩; (try replace k12 := k12.call hb); (try replace k14 := k14.call hb))
 refine hK.out _ _ ?_ ?_
 · (exact ⟨hH.1.call hb, hH.2.1.call hb, bwS hH.2.2 (Nat.le_refl _) hb⟩)
 (try clear hH); (try clear hb)
 intro hH
 clear hK K
 (try simp only [cq])
 refine wpAnyH_ready (rs := [17]) (by kernel_rfl) (by simp) ?_
 refine arc1 none fun K hK => ?_
 obtain ⟨q0, q1⟩ := k12.c2
 have f0 := k12.free 0
 have f1 := k12.free 1
 have zb := k12.lt
 have nP := blk_ne2 hH.1 k12 (by decide)
 have nX := blk_ne2 hH.2.1 k12 (by decide)
 have nO : bk14 ≠ bk12 := by omega
 have HG := Lib.hid (And.intro ((hH.1.other ⟨bk12, 0, none⟩ (.int .i64 i0) nP).other ⟨bk12, 1, none⟩ (.int .i64 i1) nP) (And.intro ((hH.2.1.other ⟨bk12, 0, none⟩ (.int .i64 i0) nX).other ⟨bk12, 1, none⟩ (.int .i64 i1) nX) ((hH.2.2.setCell (p := ⟨bk12, 0, none⟩) zk12 (.int .i64 i0)).setCell (p := ⟨bk12, 1, none⟩) zk12 (.int .i64 i1))))
 have HK1 := Lib.hid (blk_set2 k12 (.int .i64 i0) (.int .i64 i1))
 have HK2 := Lib.hid ((k14.other ⟨bk12, 0, none⟩ (.int .i64 i0) nO).other ⟨bk12, 1, none⟩ (.int .i64 i1) nO)
 clear nP nX nO
 go_simp
 refine hK.out _ _ ?_ ?_
 · exact HG.out
 (try clear hH); (try clear hb)
 intro hH
 replace k12 := HK1.out
 replace k14 := HK2.out
 clear HG HK1 HK2 q0 q1 f0 f1 zb
 clear hK K
 (try simp only [cq])
 refine tkY 18 (some 13) ?_ ?_ ?_
 rotate_left
 · intro w _; go_simp; (try with_reducible rfl)
 (try simp only [cq])
 refine wpAnyH_ready (rs := [19]) (by kernel_rfl) (by simp) ?_
 refine arc1 none fun K hK => ?_
 obtain ⟨q0, q1⟩ := k14.c2
 have f0 := k14.free 0
 have f1 := k14.free 1
 have zb := k14.lt
 have nP := blk_ne2 hH.1 k14 (by decide)
 have nX := blk_ne2 hH.2.1 k14 (by decide)
 have nO : bk12 ≠ bk14 := by omega
 have HG := Lib.hid (And.intro ((hH.1.other ⟨bk14, 0, none⟩ (.int .i64 u0) nP).other ⟨bk14, 1, none⟩ (.int .i64 u1) nP) (And.intro ((hH.2.1.other ⟨bk14, 0, none⟩ (.int .i64 u0) nX).other ⟨bk14, 1, none⟩ (.int .i64 u1) nX) ((hH.2.2.setCell (p := ⟨bk14, 0, none⟩) zk14 (.int .i64 u0)).setCell (p := ⟨bk14, 1, none⟩) zk14 (.int .i64 u1))))
 have HK1 := Lib.hid (blk_set2 k14 (.int .i64 u0) (.int .i64 u1))
 have HK2 := Lib.hid ((k12.other ⟨bk14, 0, none⟩ (.int .i64 u0) nO).other ⟨bk14, 1, none⟩ (.int .i64 u1) nO)
 clear nP nX nO
 go_simp
 refine hK.out _ _ ?_ ?_
 · exact HG.out
 (try clear hH); (try clear hb)
 intro hH
 replace k14 := HK1.out
 replace k12 := HK2.out
 clear HG HK1 HK2 q0 q1 f0 f1 zb
 clear hK K
 (try simp only [cq])
 refine wpAnyH_done (by kernel_rfl) ?_ _
 (try dsimp only [Act.put])
 (try simp only [cq])
 go_wp2_with fail
 go_meet
 exact ⟨bk12, bk14, rfl, rfl, rfl, k12, k14, hH⟩
 }
 exact AllReadyH.nil
 }
 exact AllReadyH.nil
 }
 refine arc (some 12) (fun K hK => ?_) ?_
 {
 have zz := hH.2.2.size
 (try have zq := k14.lt)
 go_simp
 first | refine oA hK ?_ (fun hH hA => ?_) | refine oD hK ?_ (fun hH hA => ?_)
 · exact ⟨hH.1.alloc _, hH.2.1.alloc _, bwA hH.2.2 (Nat.le_refl _) _⟩
 have k12 := hA
 clear hA
 obtain ⟨bk12, hbk12⟩ : ∃ b, Blk.num k12 = b := ⟨_, rfl⟩
 obtain ⟨Wn, hWn⟩ : ∃ V, Blk.wld k12 = V := ⟨_, rfl⟩
 simp only [Blk.num] at hbk12
 simp only [Blk.wld] at hWn
 (try replace k14 := awB hWn k14)
 rw [hWn] at hH k12 ⊢
 have zk12 : w.heap.size ≤ bk12 := by rw [← hbk12]; exact zz
 (try have yk12 : bk14 < bk12 := by rw [← hbk12]; exact zq)
 rw [hbk12] at k12 ⊢
 clear hbk12 hWn zz
 (try clear zq)
 clear hK K
 (try simp only [cq])
 refine wpAnyH_ready (rs := [10, 16]) (by kernel_rfl) (by simp) ?_
 refine arc (some 29) (fun K hK => ?_) ?_
 {
 go_simp
 (refine (HPt.out _ hH.2.2).mono ?_; rintro e w' ⟨rfl, hb⟩; (try replace k12 := k12.call hb); (try replace k14 := k14.call hb))
 refine hK.out _ _ ?_ ?_
 · (exact ⟨hH.1.call hb, hH.2.1.call hb, bwS hH.2.2 (Nat.le_refl _) hb⟩)
 (try clear hH); (try clear hb)
 intro hH
 clear hK K
 (try simp only [cq])
 refine wpAnyH_ready (rs := [14, 16]) (by kernel_rfl) (by simp) ?_
 refine arc (some 33) (fun K hK => ?_) ?_
 {
 go_simp
 (refine (HBd.out _ hH.2.2).mono ?_; rintro e w' ⟨rfl, hb⟩; (try replace k12 := k12.call hb); (try replace k14 := k14.call hb))
 refine hK.out _ _ ?_ ?_
 · (exact ⟨hH.1.call hb, hH.2.1.call hb, bwS hH.2.2 (Nat.le_refl _) hb⟩)
 (try clear hH); (try clear hb)
 intro hH
 clear hK K
 (try simp only [cq])
 refine wpAnyH_ready (rs := [16]) (by kernel_rfl) (by simp) ?_
 refine arc1 (some 14) fun K hK => ?_
 have zz := hH.2.2.size
 (try have zq := k12.lt)
 go_simp
 first | refine oA hK ?_ (fun hH hA => ?_) | refine oD hK ?_ (fun hH hA => ?_)
 · exact ⟨hH.1.alloc _, hH.2.1.alloc _, bwA hH.2.2 (Nat.le_refl _) _⟩
 have k14 := hA
 clear hA
 obtain ⟨bk14, hbk14⟩ : ∃ b, Blk.num k14 = b := ⟨_, rfl⟩
 obtain ⟨Wn, hWn⟩ : ∃ V, Blk.wld k14 = V := ⟨_, rfl⟩
 simp only [Blk.num] at hbk14
 simp only [Blk.wld] at hWn
 (try replace k12 := awB hWn k12)
 rw [hWn] at hH k14 ⊢
 have zk14 : w.heap.size ≤ bk14 := by rw [← hbk14]; exact zz
 (try have yk14 : bk12 < bk14 := by rw [← hbk14]; exact zq)
 rw [hbk14] at k14 ⊢
 clear hbk14 hWn zz
 (try clear zq)
 clear hK K
 (try simp only [cq])
 refine wpAnyH_ready (rs := [17]) (by kernel_rfl) (by simp) ?_
 refine arc1 none fun K hK => ?_
 obtain ⟨q0, q1⟩ := k12.c2
 have f0 := k12.free 0
 have f1 := k12.free 1
 have zb := k12.lt
 have nP := blk_ne2 hH.1 k12 (by decide)
 have nX := blk_ne2 hH.2.1 k12 (by decide)
 have nO : bk14 ≠ bk12 := by omega
 have HG := Lib.hid (And.intro ((hH.1.other ⟨bk12, 0, none⟩ (.int .i64 i0) nP).other ⟨bk12, 1, none⟩ (.int .i64 i1) nP) (And.intro ((hH.2.1.other ⟨bk12, 0, none⟩ (.int .i64 i0) nX).other ⟨bk12, 1, none⟩ (.int .i64 i1) nX) ((hH.2.2.setCell (p := ⟨bk12, 0, none⟩) zk12 (.int .i64 i0)).setCell (p := ⟨bk12, 1, none⟩) zk12 (.int .i64 i1))))
 have HK1 := Lib.hid (blk_set2 k12 (.int .i64 i0) (.int .i64 i1))
 have HK2 := Lib.hid ((k14.other ⟨bk12, 0, none⟩ (.int .i64 i0) nO).other ⟨bk12, 1, none⟩ (.int .i64 i1) nO)
 clear nP nX nO
 go_simp
 refine hK.out _ _ ?_ ?_
 · exact HG.out
 (try clear hH); (try clear hb)
 intro hH
 replace k12 := HK1.out
 replace k14 := HK2.out
 clear HG HK1 HK2 q0 q1 f0 f1 zb
 clear hK K
 (try simp only [cq])
 refine tkY 18 (some 13) ?_ ?_ ?_
 rotate_left
 · intro w _; go_simp; (try with_reducible rfl)
 (try simp only [cq])
 refine wpAnyH_ready (rs := [19]) (by kernel_rfl) (by simp) ?_
 refine arc1 none fun K hK => ?_
 obtain ⟨q0, q1⟩ := k14.c2
 have f0 := k14.free 0
 have f1 := k14.free 1
 have zb := k14.lt
 have nP := blk_ne2 hH.1 k14 (by decide)
 have nX := blk_ne2 hH.2.1 k14 (by decide)
 have nO : bk12 ≠ bk14 := by omega
 have HG := Lib.hid (And.intro ((hH.1.other ⟨bk14, 0, none⟩ (.int .i64 u0) nP).other ⟨bk14, 1, none⟩ (.int .i64 u1) nP) (And.intro ((hH.2.1.other ⟨bk14, 0, none⟩ (.int .i64 u0) nX).other ⟨bk14, 1, none⟩ (.int .i64 u1) nX) ((hH.2.2.setCell (p := ⟨bk14, 0, none⟩) zk14 (.int .i64 u0)).setCell (p := ⟨bk14, 1, none⟩) zk14 (.int .i64 u1))))
 have HK1 := Lib.hid (blk_set2 k14 (.int .i64 u0) (.int .i64 u1))
 have HK2 := Lib.hid ((k12.other ⟨bk14, 0, none⟩ (.int .i64 u0) nO).other ⟨bk14, 1, none⟩ (.int .i64 u1) nO)
 clear nP nX nO
 go_simp
 refine hK.out _ _ ?_ ?_
 · exact HG.out
 (try clear hH); (try clear hb)
 intro hH
 replace k14 := HK1.out
 replace k12 := HK2.out
 clear HG HK1 HK2 q0 q1 f0 f1 zb
 clear hK K
 (try simp only [cq])
 refine wpAnyH_done (by kernel_rfl) ?_ _
 (try dsimp only [Act.put])
 (try simp only [cq])
 go_wp2_with fail
 go_meet
 exact ⟨bk12, bk14, rfl, rfl, rfl, k12, k14, hH⟩
 }
 refine arc (some 14) (fun K hK => ?_) ?_
 {
 have zz := hH.2.2.size
 (try have zq := k12.lt)
 go_simp
 first | refine oA hK ?_ (fun hH hA => ?_) | refine oD hK ?_ (fun hH hA => ?_)
 · exact ⟨hH.1.alloc _, hH.2.1.alloc _, bwA hH.2.2 (Nat.le_refl _) _⟩
 have k14 := hA
 clear hA
 obtain ⟨bk14, hbk14⟩ : ∃ b, Blk.num k14 = b := ⟨_, rfl⟩
 obtain ⟨Wn, hWn⟩ : ∃ V, Blk.wld k14 = V := ⟨_, rfl⟩
 simp only [Blk.num] at hbk14
 simp only [Blk.wld] at hWn
 (try replace k12 := awB hWn k12)
 rw [hWn] at hH k14 ⊢
 have zk14 : w.heap.size ≤ bk14 := by rw [← hbk14]; exact zz
 (try have yk14 : bk12 < bk14 := by rw [← hbk14]; exact zq)
 rw [hbk14] at k14 ⊢
 clear hbk14 hWn zz
 (try clear zq)
 clear hK K
 (try simp only [cq])
 refine wpAnyH_ready (rs := [14]) (by kernel_rfl) (by simp) ?_
 refine arc1 (some 33) fun K hK => ?_
 go_simp
 (refine (HBd.out _ hH.2.2).mono ?_; rintro e w' ⟨rfl, hb⟩; (try replace k12 := k12.call hb); (try replace k14 := k14.call hb))
 refine hK.out _ _ ?_ ?_
 · (exact ⟨hH.1.call hb, hH.2.1.call hb, bwS hH.2.2 (Nat.le_refl _) hb⟩)
 (try clear hH); (try clear hb)
 intro hH
 clear hK K
 (try simp only [cq])
 refine wpAnyH_ready (rs := [17]) (by kernel_rfl) (by simp) ?_
 refine arc1 none fun K hK => ?_
 obtain ⟨q0, q1⟩ := k12.c2
 have f0 := k12.free 0
 have f1 := k12.free 1
 have zb := k12.lt
 have nP := blk_ne2 hH.1 k12 (by decide)
 have nX := blk_ne2 hH.2.1 k12 (by decide)
 have nO : bk14 ≠ bk12 := by omega
 have HG := Lib.hid (And.intro ((hH.1.other ⟨bk12, 0, none⟩ (.int .i64 i0) nP).other ⟨bk12, 1, none⟩ (.int .i64 i1) nP) (And.intro ((hH.2.1.other ⟨bk12, 0, none⟩ (.int .i64 i0) nX).other ⟨bk12, 1, none⟩ (.int .i64 i1) nX) ((hH.2.2.setCell (p := ⟨bk12, 0, none⟩) zk12 (.int .i64 i0)).setCell (p := ⟨bk12, 1, none⟩) zk12 (.int .i64 i1))))
 have HK1 := Lib.hid (blk_set2 k12 (.int .i64 i0) (.int .i64 i1))
 have HK2 := Lib.hid ((k14.other ⟨bk12, 0, none⟩ (.int .i64 i0) nO).other ⟨bk12, 1, none⟩ (.int .i64 i1) nO)
 clear nP nX nO
 go_simp
 refine hK.out _ _ ?_ ?_
 · exact HG.out
 (try clear hH); (try clear hb)
 intro hH
 replace k12 := HK1.out
 replace k14 := HK2.out
 clear HG HK1 HK2 q0 q1 f0 f1 zb
 clear hK K
 (try simp only [cq])
 refine tkY 18 (some 13) ?_ ?_ ?_
 rotate_left
 · intro w _; go_simp; (try with_reducible rfl)
 (try simp only [cq])
 refine wpAnyH_ready (rs := [19]) (by kernel_rfl) (by simp) ?_
 refine arc1 none fun K hK => ?_
 obtain ⟨q0, q1⟩ := k14.c2
 have f0 := k14.free 0
 have f1 := k14.free 1
 have zb := k14.lt
 have nP := blk_ne2 hH.1 k14 (by decide)
 have nX := blk_ne2 hH.2.1 k14 (by decide)
 have nO : bk12 ≠ bk14 := by omega
 have HG := Lib.hid (And.intro ((hH.1.other ⟨bk14, 0, none⟩ (.int .i64 u0) nP).other ⟨bk14, 1, none⟩ (.int .i64 u1) nP) (And.intro ((hH.2.1.other ⟨bk14, 0, none⟩ (.int .i64 u0) nX).other ⟨bk14, 1, none⟩ (.int .i64 u1) nX) ((hH.2.2.setCell (p := ⟨bk14, 0, none⟩) zk14 (.int .i64 u0)).setCell (p := ⟨bk14, 1, none⟩) zk14 (.int .i64 u1))))
 have HK1 := Lib.hid (blk_set2 k14 (.int .i64 u0) (.int .i64 u1))
 have HK2 := Lib.hid ((k12.other ⟨bk14, 0, none⟩ (.int .i64 u0) nO).other ⟨bk14, 1, none⟩ (.int .i64 u1) nO)
 clear nP nX nO
 go_simp
 refine hK.out _ _ ?_ ?_
 · exact HG.out
 (try clear hH); (try clear hb)
 intro hH
 replace k14 := HK1.out
 replace k12 := HK2.out
 clear HG HK1 HK2 q0 q1 f0 f1 zb
 clear hK K
 (try simp only [cq])
 refine wpAnyH_done (by kernel_rfl) ?_ _
 (try dsimp only [Act.put])
 (try simp only [cq])
 go_wp2_with fail
 go_meet
 exact ⟨bk12, bk14, rfl, rfl, rfl, k12, k14, hH⟩
 }
 exact AllReadyH.nil
 }
 refine arc (some 14) (fun K hK => ?_) ?_
 {
 have zz := hH.2.2.size
 (try have zq := k12.lt)
 go_simp
 first | refine oA hK ?_ (fun hH hA => ?_) | refine oD hK ?_ (fun hH hA => ?_)
 · exact ⟨hH.1.alloc _, hH.2.1.alloc _, bwA hH.2.2 (Nat.le_refl _) _⟩
 have k14 := hA
 clear hA
 obtain ⟨bk14, hbk14⟩ : ∃ b, Blk.num k14 = b := ⟨_, rfl⟩
 obtain ⟨Wn, hWn⟩ : ∃ V, Blk.wld k14 = V := ⟨_, rfl⟩
 simp only [Blk.num] at hbk14
 simp only [Blk.wld] at hWn
 (try replace k12 := awB hWn k12)
 rw [hWn] at hH k14 ⊢
 have zk14 : w.heap.size ≤ bk14 := by rw [← hbk14]; exact zz
 (try have yk14 : bk12 < bk14 := by rw [← hbk14]; exact zq)
 rw [hbk14] at k14 ⊢
 clear hbk14 hWn zz
 (try clear zq)
 clear hK K
 (try simp only [cq])
 refine wpAnyH_ready (rs := [10]) (by kernel_rfl) (by simp) ?_
 refine arc1 (some 29) fun K hK => ?_
 go_simp
 (refine (HPt.out _ hH.2.2).mono ?_; rintro e w' ⟨rfl, hb⟩; (try replace k12 := k12.call hb); (try replace k14 := k14.call hb))
 refine hK.out _ _ ?_ ?_
 · (exact ⟨hH.1.call hb, hH.2.1.call hb, bwS hH.2.2 (Nat.le_refl _) hb⟩)
 (try clear hH); (try clear hb)
 intro hH
 clear hK K
 (try simp only [cq])
 refine wpAnyH_ready (rs := [14]) (by kernel_rfl) (by simp) ?_
 refine arc1 (some 33) fun K hK => ?_
 go_simp
 (refine (HBd.out _ hH.2.2).mono ?_; rintro e w' ⟨rfl, hb⟩; (try replace k12 := k12.call hb); (try replace k14 := k14.call hb))
 refine hK.out _ _ ?_ ?_
 · (exact ⟨hH.1.call hb, hH.2.1.call hb, bwS hH.2.2 (Nat.le_refl _) hb⟩)
 (try clear hH); (try clear hb)
 intro hH
 clear hK K
 (try simp only [cq])
 refine wpAnyH_ready (rs := [17]) (by kernel_rfl) (by simp) ?_
 refine arc1 none fun K hK => ?_
 obtain ⟨q0, q1⟩ := k12.c2
 have f0 := k12.free 0
 have f1 := k12.free 1
 have zb := k12.lt
 have nP := blk_ne2 hH.1 k12 (by decide)
 have nX := blk_ne2 hH.2.1 k12 (by decide)
 have nO : bk14 ≠ bk12 := by omega
 have HG := Lib.hid (And.intro ((hH.1.other ⟨bk12, 0, none⟩ (.int .i64 i0) nP).other ⟨bk12, 1, none⟩ (.int .i64 i1) nP) (And.intro ((hH.2.1.other ⟨bk12, 0, none⟩ (.int .i64 i0) nX).other ⟨bk12, 1, none⟩ (.int .i64 i1) nX) ((hH.2.2.setCell (p := ⟨bk12, 0, none⟩) zk12 (.int .i64 i0)).setCell (p := ⟨bk12, 1, none⟩) zk12 (.int .i64 i1))))
 have HK1 := Lib.hid (blk_set2 k12 (.int .i64 i0) (.int .i64 i1))
 have HK2 := Lib.hid ((k14.other ⟨bk12, 0, none⟩ (.int .i64 i0) nO).other ⟨bk12, 1, none⟩ (.int .i64 i1) nO)
 clear nP nX nO
 go_simp
 refine hK.out _ _ ?_ ?_
 · exact HG.out
 (try clear hH); (try clear hb)
 intro hH
 replace k12 := HK1.out
 replace k14 := HK2.out
 clear HG HK1 HK2 q0 q1 f0 f1 zb
 clear hK K
 (try simp only [cq])
 refine tkY 18 (some 13) ?_ ?_ ?_
 rotate_left
 · intro w _; go_simp; (try with_reducible rfl)
 (try simp only [cq])
 refine wpAnyH_ready (rs := [19]) (by kernel_rfl) (by simp) ?_
 refine arc1 none fun K hK => ?_
 obtain ⟨q0, q1⟩ := k14.c2
 have f0 := k14.free 0
 have f1 := k14.free 1
 have zb := k14.lt
 have nP := blk_ne2 hH.1 k14 (by decide)
 have nX := blk_ne2 hH.2.1 k14 (by decide)
 have nO : bk12 ≠ bk14 := by omega
 have HG := Lib.hid (And.intro ((hH.1.other ⟨bk14, 0, none⟩ (.int .i64 u0) nP).other ⟨bk14, 1, none⟩ (.int .i64 u1) nP) (And.intro ((hH.2.1.other ⟨bk14, 0, none⟩ (.int .i64 u0) nX).other ⟨bk14, 1, none⟩ (.int .i64 u1) nX) ((hH.2.2.setCell (p := ⟨bk14, 0, none⟩) zk14 (.int .i64 u0)).setCell (p := ⟨bk14, 1, none⟩) zk14 (.int .i64 u1))))
 have HK1 := Lib.hid (blk_set2 k14 (.int .i64 u0) (.int .i64 u1))
 have HK2 := Lib.hid ((k12.other ⟨bk14, 0, none⟩ (.int .i64 u0) nO).other ⟨bk14, 1, none⟩ (.int .i64 u1) nO)
 clear nP nX nO
 go_simp
 refine hK.out _ _ ?_ ?_
 · exact HG.out
 (try clear hH); (try clear hb)
 intro hH
 replace k14 := HK1.out
 replace k12 := HK2.out
 clear HG HK1 HK2 q0 q1 f0 f1 zb
 clear hK K
 (try simp only [cq])
 refine wpAnyH_done (by kernel_rfl) ?_ _
 (try dsimp only [Act.put])
 (try simp only [cq])
 go_wp2_with fail
 go_meet
 exact ⟨bk12, bk14, rfl, rfl, rfl, k12, k14, hH⟩
 }
 exact AllReadyH.nil
 }
 refine arc (some 14) (fun K hK => ?_) ?_
 {
 have zz := hH.2.2.size
 (try have zq := k12.lt)
 go_simp
 first | refine oA hK ?_ (fun hH hA => ?_) | refine oD hK ?_ (fun hH hA => ?_)
 · exact ⟨hH.1.alloc _, hH.2.1.alloc _, bwA hH.2.2 (Nat.le_refl _) _⟩
 have k14 := hA
 clear hA
 obtain ⟨bk14, hbk14⟩ : ∃ b, Blk.num k14 = b := ⟨_, rfl⟩
 obtain ⟨Wn, hWn⟩ : ∃ V, Blk.wld k14 = V := ⟨_, rfl⟩
 simp only [Blk.num] at hbk14
 simp only [Blk.wld] at hWn
 (try replace k12 := awB hWn k12)
 rw [hWn] at hH k14 ⊢
 have zk14 : w.heap.size ≤ bk14 := by rw [← hbk14]; exact zz
 (try have yk14 : bk12 < bk14 := by rw [← hbk14]; exact zq)
 rw [hbk14] at k14 ⊢
 clear hbk14 hWn zz
 (try clear zq)
 clear hK K
 (try simp only [cq])
 refine wpAnyH_ready (rs := [10, 15]) (by kernel_rfl) (by simp) ?_
 refine arc (some 29) (fun K hK => ?_) ?_
 {
 go_simp
 (refine (HPt.out _ hH.2.2).mono ?_; rintro e w' ⟨rfl, hb⟩; (try replace k12 := k12.call hb); (try replace k14 := k14.call hb))
 refine hK.out _ _ ?_ ?_
 · (exact ⟨hH.1.call hb, hH.2.1.call hb, bwS hH.2.2 (Nat.le_refl _) hb⟩)
 (try clear hH); (try clear hb)
 intro hH
 clear hK K
 (try simp only [cq])
 refine wpAnyH_ready (rs := [14, 15]) (by kernel_rfl) (by simp) ?_
 refine arc (some 33) (fun K hK => ?_) ?_
 {
 go_simp
 (refine (HBd.out _ hH.2.2).mono ?_; rintro e w' ⟨rfl, hb⟩; (try replace k12 := k12.call hb); (try replace k14 := k14.call hb))
 refine hK.out _ _ ?_ ?_
 · (exact ⟨hH.1.call hb, hH.2.1.call hb, bwS hH.2.2 (Nat.le_refl _) hb⟩)
 (try clear hH); (try clear hb)
 intro hH
 clear hK K
 (try simp only [cq])
 refine wpAnyH_ready (rs := [15]) (by kernel_rfl) (by simp) ?_
 refine arc1 (some 12) fun K hK => ?_
 have zz := hH.2.2.size
 (try have zq := k14.lt)
 go_simp
 first | refine oA hK ?_ (fun hH hA => ?_) | refine oD hK ?_ (fun hH hA => ?_)
 · exact ⟨hH.1.alloc _, hH.2.1.alloc _, bwA hH.2.2 (Nat.le_refl _) _⟩
 have k12 := hA
 clear hA
 obtain ⟨bk12, hbk12⟩ : ∃ b, Blk.num k12 = b := ⟨_, rfl⟩
 obtain ⟨Wn, hWn⟩ : ∃ V, Blk.wld k12 = V := ⟨_, rfl⟩
 simp only [Blk.num] at hbk12
 simp only [Blk.wld] at hWn
 (try replace k14 := awB hWn k14)
 rw [hWn] at hH k12 ⊢
 have zk12 : w.heap.size ≤ bk12 := by rw [← hbk12]; exact zz
 (try have yk12 : bk14 < bk12 := by rw [← hbk12]; exact zq)
 rw [hbk12] at k12 ⊢
 clear hbk12 hWn zz
 (try clear zq)
 clear hK K
 (try simp only [cq])
 refine wpAnyH_ready (rs := [17]) (by kernel_rfl) (by simp) ?_
 refine arc1 none fun K hK => ?_
 obtain ⟨q0, q1⟩ := k12.c2
 have f0 := k12.free 0
 have f1 := k12.free 1
 have zb := k12.lt
 have nP := blk_ne2 hH.1 k12 (by decide)
 have nX := blk_ne2 hH.2.1 k12 (by decide)
 have nO : bk14 ≠ bk12 := by omega
 have HG := Lib.hid (And.intro ((hH.1.other ⟨bk12, 0, none⟩ (.int .i64 i0) nP).other ⟨bk12, 1, none⟩ (.int .i64 i1) nP) (And.intro ((hH.2.1.other ⟨bk12, 0, none⟩ (.int .i64 i0) nX).other ⟨bk12, 1, none⟩ (.int .i64 i1) nX) ((hH.2.2.setCell (p := ⟨bk12, 0, none⟩) zk12 (.int .i64 i0)).setCell (p := ⟨bk12, 1, none⟩) zk12 (.int .i64 i1))))
 have HK1 := Lib.hid (blk_set2 k12 (.int .i64 i0) (.int .i64 i1))
 have HK2 := Lib.hid ((k14.other ⟨bk12, 0, none⟩ (.int .i64 i0) nO).other ⟨bk12, 1, none⟩ (.int .i64 i1) nO)
 clear nP nX nO
 go_simp
 refine hK.out _ _ ?_ ?_
 · exact HG.out
 (try clear hH); (try clear hb)
 intro hH
 replace k12 := HK1.out
 replace k14 := HK2.out
 clear HG HK1 HK2 q0 q1 f0 f1 zb
 clear hK K
 (try simp only [cq])
 refine tkY 18 (some 13) ?_ ?_ ?_
 rotate_left
 · intro w _; go_simp; (try with_reducible rfl)
 (try simp only [cq])
 refine wpAnyH_ready (rs := [19]) (by kernel_rfl) (by simp) ?_
 refine arc1 none fun K hK => ?_
 obtain ⟨q0, q1⟩ := k14.c2
 have f0 := k14.free 0
 have f1 := k14.free 1
 have zb := k14.lt
 have nP := blk_ne2 hH.1 k14 (by decide)
 have nX := blk_ne2 hH.2.1 k14 (by decide)
 have nO : bk12 ≠ bk14 := by omega
 have HG := Lib.hid (And.intro ((hH.1.other ⟨bk14, 0, none⟩ (.int .i64 u0) nP).other ⟨bk14, 1, none⟩ (.int .i64 u1) nP) (And.intro ((hH.2.1.other ⟨bk14, 0, none⟩ (.int .i64 u0) nX).other ⟨bk14, 1, none⟩ (.int .i64 u1) nX) ((hH.2.2.setCell (p := ⟨bk14, 0, none⟩) zk14 (.int .i64 u0)).setCell (p := ⟨bk14, 1, none⟩) zk14 (.int .i64 u1))))
 have HK1 := Lib.hid (blk_set2 k14 (.int .i64 u0) (.int .i64 u1))
 have HK2 := Lib.hid ((k12.other ⟨bk14, 0, none⟩ (.int .i64 u0) nO).other ⟨bk14, 1, none⟩ (.int .i64 u1) nO)
 clear nP nX nO
 go_simp
 refine hK.out _ _ ?_ ?_
 · exact HG.out
 (try clear hH); (try clear hb)
 intro hH
 replace k14 := HK1.out
 replace k12 := HK2.out
 clear HG HK1 HK2 q0 q1 f0 f1 zb
 clear hK K
 (try simp only [cq])
 refine wpAnyH_done (by kernel_rfl) ?_ _
 (try dsimp only [Act.put])
 (try simp only [cq])
 go_wp2_with fail
 go_meet
 exact ⟨bk12, bk14, rfl, rfl, rfl, k12, k14, hH⟩
 }
 refine arc (some 12) (fun K hK => ?_) ?_
 {
 have zz := hH.2.2.size
 (try have zq := k14.lt)
 go_simp
 first | refine oA hK ?_ (fun hH hA => ?_) | refine oD hK ?_ (fun hH hA => ?_)
 · exact ⟨hH.1.alloc _, hH.2.1.alloc _, bwA hH.2.2 (Nat.le_refl _) _⟩
 have k12 := hA
 clear hA
 obtain ⟨bk12, hbk12⟩ : ∃ b, Blk.num k12 = b := ⟨_, rfl⟩
 obtain ⟨Wn, hWn⟩ : ∃ V, Blk.wld k12 = V := ⟨_, rfl⟩
 simp only [Blk.num] at hbk12
 simp only [Blk.wld] at hWn
 (try replace k14 := awB hWn k14)
 rw [hWn] at hH k12 ⊢
 have zk12 : w.heap.size ≤ bk12 := by rw [← hbk12]; exact zz
 (try have yk12 : bk14 < bk12 := by rw [← hbk12]; exact zq)
 rw [hbk12] at k12 ⊢
 clear hbk12 hWn zz
 (try clear zq)
 clear hK K
 (try simp only [cq])
 refine wpAnyH_ready (rs := [14]) (by kernel_rfl) (by simp) ?_
 refine arc1 (some 33) fun K hK => ?_
 go_simp
 (refine (HBd.out _ hH.2.2).mono ?_; rintro e w' ⟨rfl, hb⟩; (try replace k12 := k12.call hb); (try replace k14 := k14.call hb))
 refine hK.out _ _ ?_ ?_
 · (exact ⟨hH.1.call hb, hH.2.1.call hb, bwS hH.2.2 (Nat.le_refl _) hb⟩)
 (try clear hH); (try clear hb)
 intro hH
 clear hK K
 (try simp only [cq])
 refine wpAnyH_ready (rs := [17]) (by kernel_rfl) (by simp) ?_
 refine arc1 none fun K hK => ?_
 obtain ⟨q0, q1⟩ := k12.c2
 have f0 := k12.free 0
 have f1 := k12.free 1
 have zb := k12.lt
 have nP := blk_ne2 hH.1 k12 (by decide)
 have nX := blk_ne2 hH.2.1 k12 (by decide)
 have nO : bk14 ≠ bk12 := by omega
 have HG := Lib.hid (And.intro ((hH.1.other ⟨bk12, 0, none⟩ (.int .i64 i0) nP).other ⟨bk12, 1, none⟩ (.int .i64 i1) nP) (And.intro ((hH.2.1.other ⟨bk12, 0, none⟩ (.int .i64 i0) nX).other ⟨bk12, 1, none⟩ (.int .i64 i1) nX) ((hH.2.2.setCell (p := ⟨bk12, 0, none⟩) zk12 (.int .i64 i0)).setCell (p := ⟨bk12, 1, none⟩) zk12 (.int .i64 i1))))
 have HK1 := Lib.hid (blk_set2 k12 (.int .i64 i0) (.int .i64 i1))
 have HK2 := Lib.hid ((k14.other ⟨bk12, 0, none⟩ (.int .i64 i0) nO).other ⟨bk12, 1, none⟩ (.int .i64 i1) nO)
 clear nP nX nO
 go_simp
 refine hK.out _ _ ?_ ?_
 · exact HG.out
 (try clear hH); (try clear hb)
 intro hH
 replace k12 := HK1.out
 replace k14 := HK2.out
 clear HG HK1 HK2 q0 q1 f0 f1 zb
 clear hK K
 (try simp only [cq])
 refine tkY 18 (some 13) ?_ ?_ ?_
 rotate_left
 · intro w _; go_simp; (try with_reducible rfl)
 (try simp only [cq])
 refine wpAnyH_ready (rs := [19]) (by kernel_rfl) (by simp) ?_
 refine arc1 none fun K hK => ?_
 obtain ⟨q0, q1⟩ := k14.c2
 have f0 := k14.free 0
 have f1 := k14.free 1
 have zb := k14.lt
 have nP := blk_ne2 hH.1 k14 (by decide)
 have nX := blk_ne2 hH.2.1 k14 (by decide)
 have nO : bk12 ≠ bk14 := by omega
 have HG := Lib.hid (And.intro ((hH.1.other ⟨bk14, 0, none⟩ (.int .i64 u0) nP).other ⟨bk14, 1, none⟩ (.int .i64 u1) nP) (And.intro ((hH.2.1.other ⟨bk14, 0, none⟩ (.int .i64 u0) nX).other ⟨bk14, 1, none⟩ (.int .i64 u1) nX) ((hH.2.2.setCell (p := ⟨bk14, 0, none⟩) zk14 (.int .i64 u0)).setCell (p := ⟨bk14, 1, none⟩) zk14 (.int .i64 u1))))
 have HK1 := Lib.hid (blk_set2 k14 (.int .i64 u0) (.int .i64 u1))
 have HK2 := Lib.hid ((k12.other ⟨bk14, 0, none⟩ (.int .i64 u0) nO).other ⟨bk14, 1, none⟩ (.int .i64 u1) nO)
 clear nP nX nO
 go_simp
 refine hK.out _ _ ?_ ?_
 · exact HG.out
 (try clear hH); (try clear hb)
 intro hH
 replace k14 := HK1.out
 replace k12 := HK2.out
 clear HG HK1 HK2 q0 q1 f0 f1 zb
 clear hK K
 (try simp only [cq])
 refine wpAnyH_done (by kernel_rfl) ?_ _
 (try dsimp only [Act.put])
 (try simp only [cq])
 go_wp2_with fail
 go_meet
 exact ⟨bk12, bk14, rfl, rfl, rfl, k12, k14, hH⟩
 }
 exact AllReadyH.nil
 }
 refine arc (some 12) (fun K hK => ?_) ?_
 {
 have zz := hH.2.2.size
 (try have zq := k14.lt)
 go_simp
 first | refine oA hK ?_ (fun hH hA => ?_) | refine oD hK ?_ (fun hH hA => ?_)
 · exact ⟨hH.1.alloc _, hH.2.1.alloc _, bwA hH.2.2 (Nat.le_refl _) _⟩
 have k12 := hA
 clear hA
 obtain ⟨bk12, hbk12⟩ : ∃ b, Blk.num k12 = b := ⟨_, rfl⟩
 obtain ⟨Wn, hWn⟩ : ∃ V, Blk.wld k12 = V := ⟨_, rfl⟩
 simp only [Blk.num] at hbk12
 simp only [Blk.wld] at hWn
 (try replace k14 := awB hWn k14)
 rw [hWn] at hH k12 ⊢
 have zk12 : w.heap.size ≤ bk12 := by rw [← hbk12]; exact zz
 (try have yk12 : bk14 < bk12 := by rw [← hbk12]; exact zq)
 rw [hbk12] at k12 ⊢
 clear hbk12 hWn zz
 (try clear zq)
 clear hK K
 (try simp only [cq])
 refine wpAnyH_ready (rs := [10]) (by kernel_rfl) (by simp) ?_
 refine arc1 (some 29) fun K hK => ?_
 go_simp
 (refine (HPt.out _ hH.2.2).mono ?_; rintro e w' ⟨rfl, hb⟩; (try replace k12 := k12.call hb); (try replace k14 := k14.call hb))
 refine hK.out _ _ ?_ ?_
 · (exact ⟨hH.1.call hb, hH.2.1.call hb, bwS hH.2.2 (Nat.le_refl _) hb⟩)
 (try clear hH); (try clear hb)
 intro hH
 clear hK K
 (try simp only [cq])
 refine wpAnyH_ready (rs := [14]) (by kernel_rfl) (by simp) ?_
 refine arc1 (some 33) fun K hK => ?_
 go_simp
 (refine (HBd.out _ hH.2.2).mono ?_; rintro e w' ⟨rfl, hb⟩; (try replace k12 := k12.call hb); (try replace k14 := k14.call hb))
 refine hK.out _ _ ?_ ?_
 · (exact ⟨hH.1.call hb, hH.2.1.call hb, bwS hH.2.2 (Nat.le_refl _) hb⟩)
 (try clear hH); (try clear hb)
 intro hH
 clear hK K
 (try simp only [cq])
 refine wpAnyH_ready (rs := [17]) (by kernel_rfl) (by simp) ?_
 refine arc1 none fun K hK => ?_
 obtain ⟨q0, q1⟩ := k12.c2
 have f0 := k12.free 0
 have f1 := k12.free 1
 have zb := k12.lt
 have nP := blk_ne2 hH.1 k12 (by decide)
 have nX := blk_ne2 hH.2.1 k12 (by decide)
 have nO : bk14 ≠ bk12 := by omega
 have HG := Lib.hid (And.intro ((hH.1.other ⟨bk12, 0, none⟩ (.int .i64 i0) nP).other ⟨bk12, 1, none⟩ (.int .i64 i1) nP) (And.intro ((hH.2.1.other ⟨bk12, 0, none⟩ (.int .i64 i0) nX).other ⟨bk12, 1, none⟩ (.int .i64 i1) nX) ((hH.2.2.setCell (p := ⟨bk12, 0, none⟩) zk12 (.int .i64 i0)).setCell (p := ⟨bk12, 1, none⟩) zk12 (.int .i64 i1))))
 have HK1 := Lib.hid (blk_set2 k12 (.int .i64 i0) (.int .i64 i1))
 have HK2 := Lib.hid ((k14.other ⟨bk12, 0, none⟩ (.int .i64 i0) nO).other ⟨bk12, 1, none⟩ (.int .i64 i1) nO)
 clear nP nX nO
 go_simp
 refine hK.out _ _ ?_ ?_
 · exact HG.out
 (try clear hH); (try clear hb)
 intro hH
 replace k12 := HK1.out
 replace k14 := HK2.out
 clear HG HK1 HK2 q0 q1 f0 f1 zb
 clear hK K
 (try simp only [cq])
 refine tkY 18 (some 13) ?_ ?_ ?_
 rotate_left
 · intro w _; go_simp; (try with_reducible rfl)
 (try simp only [cq])
 refine wpAnyH_ready (rs := [19]) (by kernel_rfl) (by simp) ?_
 refine arc1 none fun K hK => ?_
 obtain ⟨q0, q1⟩ := k14.c2
 have f0 := k14.free 0
 have f1 := k14.free 1
 have zb := k14.lt
 have nP := blk_ne2 hH.1 k14 (by decide)
 have nX := blk_ne2 hH.2.1 k14 (by decide)
 have nO : bk12 ≠ bk14 := by omega
 have HG := Lib.hid (And.intro ((hH.1.other ⟨bk14, 0, none⟩ (.int .i64 u0) nP).other ⟨bk14, 1, none⟩ (.int .i64 u1) nP) (And.intro ((hH.2.1.other ⟨bk14, 0, none⟩ (.int .i64 u0) nX).other ⟨bk14, 1, none⟩ (.int .i64 u1) nX) ((hH.2.2.setCell (p := ⟨bk14, 0, none⟩) zk14 (.int .i64 u0)).setCell (p := ⟨bk14, 1, none⟩) zk14 (.int .i64 u1))))
 have HK1 := Lib.hid (blk_set2 k14 (.int .i64 u0) (.int .i64 u1))
 have HK2 := Lib.hid ((k12.other ⟨bk14, 0, none⟩ (.int .i64 u0) nO).other ⟨bk14, 1, none⟩ (.int .i64 u1) nO)
 clear nP nX nO
 go_simp
 refine hK.out _ _ ?_ ?_
 · exact HG.out
 (try clear hH); (try clear hb)
 intro hH
 replace k14 := HK1.out
 replace k12 := HK2.out
 clear HG HK1 HK2 q0 q1 f0 f1 zb
 clear hK K
 (try simp only [cq])
 refine wpAnyH_done (by kernel_rfl) ?_ _
 (try dsimp only [Act.put])
 (try simp only [cq])
 go_wp2_with fail
 go_meet
 exact ⟨bk12, bk14, rfl, rfl, rfl, k12, k14, hH⟩
 }
 exact AllReadyH.nil
 }
 exact AllReadyH.nil )
  case rest =>
    clear jP jX jB HPt HBd HIc
    obtain ⟨b12, b14, rfl, rfl, rfl, j12, j14, jP, jX, jB⟩ := hcut
    go_upto_region 3 with fail
    refine wp_region_held_drew (S := (fun v => Blk v b12 #[.int .i64 i0, .int .i64 i1] 23 ∧ Blk v b14 #[.int .i64 u0, .int .i64 u1] 23 ∧ Blk v bP #[.int .i64 p.s0, .int .i64 p.s1, (.slice aS p.S.n cS), (.slice aC p.C.n cC), .int .i64 p.ne, .int .i64 p.ed, .int .i64 p.gr, .int .i64 p.lo, .int .i64 p.hi, .int .i64 p.sh, .int .i64 p.wi] 26 ∧ Blk v bX #[.int .i64 x.me, .int .i64 x.w0, .int .i64 x.w1, .int .i64 x.st] 53 ∧ Below w.heap.size w v)) (by kernel_rfl) ?_ (fun hH => ?_)
    · (try dsimp only); (exact ⟨j12.drew, j14.drew, jP.drew, jX.drew, jB.drew⟩)
    refine tkY 0 (some 34) ?_ ?_ ?_
    rotate_left
    · intro w hS0; (try dsimp only at hS0); obtain ⟨k1, k2, kP, kX, kB⟩ := hS0; obtain ⟨c0, c1, c2, c3, c4, c5, c6, c7, c8, c9, c10⟩ := kP.c11; obtain ⟨x0, x1, x2, x3⟩ := kX.c4; obtain ⟨e0, e1⟩ := k1.c2; obtain ⟨d0, d1⟩ := k2.c2; have y0 := kP.lt; have y1 := kX.lt; have y2 := k1.lt; have y3 := k2.lt;go_simp; (try with_reducible rfl)
    (try simp only [cq])
    refine tkY 1 (some 35) ?_ ?_ ?_
    rotate_left
    · intro w hS0; (try dsimp only at hS0); obtain ⟨k1, k2, kP, kX, kB⟩ := hS0; obtain ⟨c0, c1, c2, c3, c4, c5, c6, c7, c8, c9, c10⟩ := kP.c11; obtain ⟨x0, x1, x2, x3⟩ := kX.c4; obtain ⟨e0, e1⟩ := k1.c2; obtain ⟨d0, d1⟩ := k2.c2; have y0 := kP.lt; have y1 := kX.lt; have y2 := k1.lt; have y3 := k2.lt;go_simp; (try with_reducible rfl)
    (try simp only [cq])
    refine tkY 2 (some 36) ?_ ?_ ?_
    rotate_left
    · intro w hS0; (try dsimp only at hS0); obtain ⟨k1, k2, kP, kX, kB⟩ := hS0; obtain ⟨c0, c1, c2, c3, c4, c5, c6, c7, c8, c9, c10⟩ := kP.c11; obtain ⟨x0, x1, x2, x3⟩ := kX.c4; obtain ⟨e0, e1⟩ := k1.c2; obtain ⟨d0, d1⟩ := k2.c2; have y0 := kP.lt; have y1 := kX.lt; have y2 := k1.lt; have y3 := k2.lt;go_simp; (try with_reducible rfl)
    (try simp only [cq])
    refine tkY 3 (some 37) ?_ ?_ ?_
    rotate_left
    · intro w hS0; (try dsimp only at hS0); obtain ⟨k1, k2, kP, kX, kB⟩ := hS0; obtain ⟨c0, c1, c2, c3, c4, c5, c6, c7, c8, c9, c10⟩ := kP.c11; obtain ⟨x0, x1, x2, x3⟩ := kX.c4; obtain ⟨e0, e1⟩ := k1.c2; obtain ⟨d0, d1⟩ := k2.c2; have y0 := kP.lt; have y1 := kX.lt; have y2 := k1.lt; have y3 := k2.lt;go_simp; (try with_reducible rfl)
    (try simp only [cq])
    refine tkY 4 (some 38) ?_ ?_ ?_
    rotate_left
    · intro w hS0; (try dsimp only at hS0); obtain ⟨k1, k2, kP, kX, kB⟩ := hS0; obtain ⟨c0, c1, c2, c3, c4, c5, c6, c7, c8, c9, c10⟩ := kP.c11; obtain ⟨x0, x1, x2, x3⟩ := kX.c4; obtain ⟨e0, e1⟩ := k1.c2; obtain ⟨d0, d1⟩ := k2.c2; have y0 := kP.lt; have y1 := kX.lt; have y2 := k1.lt; have y3 := k2.lt;go_simp; (try with_reducible rfl)
    (try simp only [cq])
    refine tkY 5 (some 39) ?_ ?_ ?_
    rotate_left
    · intro w hS0; (try dsimp only at hS0); obtain ⟨k1, k2, kP, kX, kB⟩ := hS0; obtain ⟨c0, c1, c2, c3, c4, c5, c6, c7, c8, c9, c10⟩ := kP.c11; obtain ⟨x0, x1, x2, x3⟩ := kX.c4; obtain ⟨e0, e1⟩ := k1.c2; obtain ⟨d0, d1⟩ := k2.c2; have y0 := kP.lt; have y1 := kX.lt; have y2 := k1.lt; have y3 := k2.lt;go_simp; (try with_reducible rfl)
    (try simp only [cq])
    refine tkY 6 (some 40) ?_ ?_ ?_
    rotate_left
    · intro w hS0; (try dsimp only at hS0); obtain ⟨k1, k2, kP, kX, kB⟩ := hS0; obtain ⟨c0, c1, c2, c3, c4, c5, c6, c7, c8, c9, c10⟩ := kP.c11; obtain ⟨x0, x1, x2, x3⟩ := kX.c4; obtain ⟨e0, e1⟩ := k1.c2; obtain ⟨d0, d1⟩ := k2.c2; have y0 := kP.lt; have y1 := kX.lt; have y2 := k1.lt; have y3 := k2.lt;go_simp; (try with_reducible rfl)
    (try simp only [cq])
    refine tkY 7 (some 41) ?_ ?_ ?_
    rotate_left
    · intro w hS0; (try dsimp only at hS0); obtain ⟨k1, k2, kP, kX, kB⟩ := hS0; obtain ⟨c0, c1, c2, c3, c4, c5, c6, c7, c8, c9, c10⟩ := kP.c11; obtain ⟨x0, x1, x2, x3⟩ := kX.c4; obtain ⟨e0, e1⟩ := k1.c2; obtain ⟨d0, d1⟩ := k2.c2; have y0 := kP.lt; have y1 := kX.lt; have y2 := k1.lt; have y3 := k2.lt;go_simp; (try with_reducible rfl)
    (try simp only [cq])
    refine tkY 8 (some 42) ?_ ?_ ?_
    rotate_left
    · intro w hS0; (try dsimp only at hS0); obtain ⟨k1, k2, kP, kX, kB⟩ := hS0; obtain ⟨c0, c1, c2, c3, c4, c5, c6, c7, c8, c9, c10⟩ := kP.c11; obtain ⟨x0, x1, x2, x3⟩ := kX.c4; obtain ⟨e0, e1⟩ := k1.c2; obtain ⟨d0, d1⟩ := k2.c2; have y0 := kP.lt; have y1 := kX.lt; have y2 := k1.lt; have y3 := k2.lt;go_simp; (try with_reducible rfl)
    (try simp only [cq])
    refine tkY 9 (some 43) ?_ ?_ ?_
    rotate_left
    · intro w _; go_simp; (try with_reducible rfl)
    (try simp only [cq])
    refine tkY 10 (some 44) ?_ ?_ ?_
    rotate_left
    · intro w hS0; (try dsimp only at hS0); obtain ⟨k1, k2, kP, kX, kB⟩ := hS0; obtain ⟨c0, c1, c2, c3, c4, c5, c6, c7, c8, c9, c10⟩ := kP.c11; obtain ⟨x0, x1, x2, x3⟩ := kX.c4; obtain ⟨e0, e1⟩ := k1.c2; obtain ⟨d0, d1⟩ := k2.c2; have y0 := kP.lt; have y1 := kX.lt; have y2 := k1.lt; have y3 := k2.lt;go_simp; (try with_reducible rfl)
    (try simp only [cq])
    refine tkY 11 (some 45) ?_ ?_ ?_
    rotate_left
    · intro w hS0; (try dsimp only at hS0); obtain ⟨k1, k2, kP, kX, kB⟩ := hS0; obtain ⟨c0, c1, c2, c3, c4, c5, c6, c7, c8, c9, c10⟩ := kP.c11; obtain ⟨x0, x1, x2, x3⟩ := kX.c4; obtain ⟨e0, e1⟩ := k1.c2; obtain ⟨d0, d1⟩ := k2.c2; have y0 := kP.lt; have y1 := kX.lt; have y2 := k1.lt; have y3 := k2.lt;go_simp; (try with_reducible rfl)
    (try simp only [cq])
    refine tkY 14 (some 48) ?_ ?_ ?_
    rotate_left
    · intro w _; go_simp; (try with_reducible rfl)
    (try simp only [cq])
    refine wpAnyH_ready (rs := [12]) (by kernel_rfl) (by simp) ?_
    refine arc1 (some 46) fun K hK => ?_
    go_simp
    (refine (HN1.out _ hH.2.2.2.2).mono ?_; rintro e w' ⟨rfl, hb⟩)
    refine hK.out _ _ ?_ ?_
    · (exact ⟨hH.1.call hb, hH.2.1.call hb, hH.2.2.1.call hb, hH.2.2.2.1.call hb, bwS hH.2.2.2.2 (Nat.le_refl _) hb⟩)
    (try clear hH); (try clear hb)
    intro hH
    clear hK K
    (try simp only [cq])
    refine wpAnyH_ready (rs := [13]) (by kernel_rfl) (by simp) ?_
    refine arc1 (some 47) fun K hK => ?_
    go_simp
    (refine (HT1.out _ hH.2.2.2.2).mono ?_; rintro e w' ⟨rfl, hb⟩)
    refine hK.out _ _ ?_ ?_
    · (exact ⟨hH.1.call hb, hH.2.1.call hb, hH.2.2.1.call hb, hH.2.2.2.1.call hb, bwS hH.2.2.2.2 (Nat.le_refl _) hb⟩)
    (try clear hH); (try clear hb)
    intro hH
    clear hK K
    (try simp only [cq])
    refine wpAnyH_ready (rs := [15]) (by kernel_rfl) (by simp) ?_
    refine arc1 (some 49) fun K hK => ?_
    go_simp
    (refine (HB1.out _).mono ?_; rintro e w' ⟨rfl, hb⟩)
    refine hK.out _ _ ?_ ?_
    · (exact ⟨hH.1.call hb, hH.2.1.call hb, hH.2.2.1.call hb, hH.2.2.2.1.call hb, bwS hH.2.2.2.2 (Nat.le_refl _) hb⟩)
    (try clear hH); (try clear hb)
    intro hH
    clear hK K
    (try simp only [cq])
    refine wpAnyH_done (by kernel_rfl) ?_ _
    (try dsimp only [Act.put])
    (try simp only [cq])
    clear j12 j14 jP jX jB
    obtain ⟨j12, j14, jP, jX, jB⟩ := hH
    cases B1 with
    | true =>
      have hr : r = 1 := by rw [HR.out]; rfl
      subst hr
      go_wp2
      go_ret
      exact ⟨rfl, jB⟩
    | false =>
      go_upto_region 5 with fail
      refine wp_region_held_drew (S := (fun v => Blk v b12 #[.int .i64 i0, .int .i64 i1] 23 ∧ Blk v b14 #[.int .i64 u0, .int .i64 u1] 23 ∧ Blk v bP #[.int .i64 p.s0, .int .i64 p.s1, (.slice aS p.S.n cS), (.slice aC p.C.n cC), .int .i64 p.ne, .int .i64 p.ed, .int .i64 p.gr, .int .i64 p.lo, .int .i64 p.hi, .int .i64 p.sh, .int .i64 p.wi] 26 ∧ Blk v bX #[.int .i64 x.me, .int .i64 x.w0, .int .i64 x.w1, .int .i64 x.st] 53 ∧ Below w.heap.size w v)) (by kernel_rfl) ?_ (fun hH => ?_)
      · (try dsimp only); (exact ⟨j12.drew, j14.drew, jP.drew, jX.drew, jB.drew⟩)
      refine tkY 0 (some 50) ?_ ?_ ?_
      rotate_left
      · intro w hS0; (try dsimp only at hS0); obtain ⟨k1, k2, kP, kX, kB⟩ := hS0; obtain ⟨c0, c1, c2, c3, c4, c5, c6, c7, c8, c9, c10⟩ := kP.c11; obtain ⟨x0, x1, x2, x3⟩ := kX.c4; obtain ⟨e0, e1⟩ := k1.c2; obtain ⟨d0, d1⟩ := k2.c2; have y0 := kP.lt; have y1 := kX.lt; have y2 := k1.lt; have y3 := k2.lt;go_simp; (try with_reducible rfl)
      (try simp only [cq])
      refine tkY 1 (some 51) ?_ ?_ ?_
      rotate_left
      · intro w hS0; (try dsimp only at hS0); obtain ⟨k1, k2, kP, kX, kB⟩ := hS0; obtain ⟨c0, c1, c2, c3, c4, c5, c6, c7, c8, c9, c10⟩ := kP.c11; obtain ⟨x0, x1, x2, x3⟩ := kX.c4; obtain ⟨e0, e1⟩ := k1.c2; obtain ⟨d0, d1⟩ := k2.c2; have y0 := kP.lt; have y1 := kX.lt; have y2 := k1.lt; have y3 := k2.lt;go_simp; (try with_reducible rfl)
      (try simp only [cq])
      refine tkY 2 (some 52) ?_ ?_ ?_
      rotate_left
      · intro w hS0; (try dsimp only at hS0); obtain ⟨k1, k2, kP, kX, kB⟩ := hS0; obtain ⟨c0, c1, c2, c3, c4, c5, c6, c7, c8, c9, c10⟩ := kP.c11; obtain ⟨x0, x1, x2, x3⟩ := kX.c4; obtain ⟨e0, e1⟩ := k1.c2; obtain ⟨d0, d1⟩ := k2.c2; have y0 := kP.lt; have y1 := kX.lt; have y2 := k1.lt; have y3 := k2.lt;go_simp; (try with_reducible rfl)
      (try simp only [cq])
      refine tkY 3 (some 53) ?_ ?_ ?_
      rotate_left
      · intro w hS0; (try dsimp only at hS0); obtain ⟨k1, k2, kP, kX, kB⟩ := hS0; obtain ⟨c0, c1, c2, c3, c4, c5, c6, c7, c8, c9, c10⟩ := kP.c11; obtain ⟨x0, x1, x2, x3⟩ := kX.c4; obtain ⟨e0, e1⟩ := k1.c2; obtain ⟨d0, d1⟩ := k2.c2; have y0 := kP.lt; have y1 := kX.lt; have y2 := k1.lt; have y3 := k2.lt;go_simp; (try with_reducible rfl)
      (try simp only [cq])
      refine tkY 4 (some 54) ?_ ?_ ?_
      rotate_left
      · intro w hS0; (try dsimp only at hS0); obtain ⟨k1, k2, kP, kX, kB⟩ := hS0; obtain ⟨c0, c1, c2, c3, c4, c5, c6, c7, c8, c9, c10⟩ := kP.c11; obtain ⟨x0, x1, x2, x3⟩ := kX.c4; obtain ⟨e0, e1⟩ := k1.c2; obtain ⟨d0, d1⟩ := k2.c2; have y0 := kP.lt; have y1 := kX.lt; have y2 := k1.lt; have y3 := k2.lt;go_simp; (try with_reducible rfl)
      (try simp only [cq])
      refine tkY 5 (some 55) ?_ ?_ ?_
      rotate_left
      · intro w hS0; (try dsimp only at hS0); obtain ⟨k1, k2, kP, kX, kB⟩ := hS0; obtain ⟨c0, c1, c2, c3, c4, c5, c6, c7, c8, c9, c10⟩ := kP.c11; obtain ⟨x0, x1, x2, x3⟩ := kX.c4; obtain ⟨e0, e1⟩ := k1.c2; obtain ⟨d0, d1⟩ := k2.c2; have y0 := kP.lt; have y1 := kX.lt; have y2 := k1.lt; have y3 := k2.lt;go_simp; (try with_reducible rfl)
      (try simp only [cq])
      refine tkY 6 (some 56) ?_ ?_ ?_
      rotate_left
      · intro w hS0; (try dsimp only at hS0); obtain ⟨k1, k2, kP, kX, kB⟩ := hS0; obtain ⟨c0, c1, c2, c3, c4, c5, c6, c7, c8, c9, c10⟩ := kP.c11; obtain ⟨x0, x1, x2, x3⟩ := kX.c4; obtain ⟨e0, e1⟩ := k1.c2; obtain ⟨d0, d1⟩ := k2.c2; have y0 := kP.lt; have y1 := kX.lt; have y2 := k1.lt; have y3 := k2.lt;go_simp; (try with_reducible rfl)
      (try simp only [cq])
      refine tkY 7 (some 57) ?_ ?_ ?_
      rotate_left
      · intro w hS0; (try dsimp only at hS0); obtain ⟨k1, k2, kP, kX, kB⟩ := hS0; obtain ⟨c0, c1, c2, c3, c4, c5, c6, c7, c8, c9, c10⟩ := kP.c11; obtain ⟨x0, x1, x2, x3⟩ := kX.c4; obtain ⟨e0, e1⟩ := k1.c2; obtain ⟨d0, d1⟩ := k2.c2; have y0 := kP.lt; have y1 := kX.lt; have y2 := k1.lt; have y3 := k2.lt;go_simp; (try with_reducible rfl)
      (try simp only [cq])
      refine tkY 8 (some 58) ?_ ?_ ?_
      rotate_left
      · intro w hS0; (try dsimp only at hS0); obtain ⟨k1, k2, kP, kX, kB⟩ := hS0; obtain ⟨c0, c1, c2, c3, c4, c5, c6, c7, c8, c9, c10⟩ := kP.c11; obtain ⟨x0, x1, x2, x3⟩ := kX.c4; obtain ⟨e0, e1⟩ := k1.c2; obtain ⟨d0, d1⟩ := k2.c2; have y0 := kP.lt; have y1 := kX.lt; have y2 := k1.lt; have y3 := k2.lt;go_simp; (try with_reducible rfl)
      (try simp only [cq])
      refine tkY 9 (some 59) ?_ ?_ ?_
      rotate_left
      · intro w _; go_simp; (try with_reducible rfl)
      (try simp only [cq])
      refine tkY 10 (some 60) ?_ ?_ ?_
      rotate_left
      · intro w hS0; (try dsimp only at hS0); obtain ⟨k1, k2, kP, kX, kB⟩ := hS0; obtain ⟨c0, c1, c2, c3, c4, c5, c6, c7, c8, c9, c10⟩ := kP.c11; obtain ⟨x0, x1, x2, x3⟩ := kX.c4; obtain ⟨e0, e1⟩ := k1.c2; obtain ⟨d0, d1⟩ := k2.c2; have y0 := kP.lt; have y1 := kX.lt; have y2 := k1.lt; have y3 := k2.lt;go_simp; (try with_reducible rfl)
      (try simp only [cq])
      refine tkY 11 (some 61) ?_ ?_ ?_
      rotate_left
      · intro w hS0; (try dsimp only at hS0); obtain ⟨k1, k2, kP, kX, kB⟩ := hS0; obtain ⟨c0, c1, c2, c3, c4, c5, c6, c7, c8, c9, c10⟩ := kP.c11; obtain ⟨x0, x1, x2, x3⟩ := kX.c4; obtain ⟨e0, e1⟩ := k1.c2; obtain ⟨d0, d1⟩ := k2.c2; have y0 := kP.lt; have y1 := kX.lt; have y2 := k1.lt; have y3 := k2.lt;go_simp; (try with_reducible rfl)
      (try simp only [cq])
      refine tkY 14 (some 64) ?_ ?_ ?_
      rotate_left
      · intro w _; go_simp; (try with_reducible rfl)
      (try simp only [cq])
      refine wpAnyH_ready (rs := [12]) (by kernel_rfl) (by simp) ?_
      refine arc1 (some 62) fun K hK => ?_
      go_simp
      (refine (HN2.out _ hH.2.2.2.2).mono ?_; rintro e w' ⟨rfl, hb⟩)
      refine hK.out _ _ ?_ ?_
      · (exact ⟨hH.1.call hb, hH.2.1.call hb, hH.2.2.1.call hb, hH.2.2.2.1.call hb, bwS hH.2.2.2.2 (Nat.le_refl _) hb⟩)
      (try clear hH); (try clear hb)
      intro hH
      clear hK K
      (try simp only [cq])
      refine wpAnyH_ready (rs := [13]) (by kernel_rfl) (by simp) ?_
      refine arc1 (some 63) fun K hK => ?_
      go_simp
      (refine (HT2.out _ hH.2.2.2.2).mono ?_; rintro e w' ⟨rfl, hb⟩)
      refine hK.out _ _ ?_ ?_
      · (exact ⟨hH.1.call hb, hH.2.1.call hb, hH.2.2.1.call hb, hH.2.2.2.1.call hb, bwS hH.2.2.2.2 (Nat.le_refl _) hb⟩)
      (try clear hH); (try clear hb)
      intro hH
      clear hK K
      (try simp only [cq])
      refine wpAnyH_ready (rs := [15]) (by kernel_rfl) (by simp) ?_
      refine arc1 (some 65) fun K hK => ?_
      go_simp
      (refine (HB2.out _).mono ?_; rintro e w' ⟨rfl, hb⟩)
      refine hK.out _ _ ?_ ?_
      · (exact ⟨hH.1.call hb, hH.2.1.call hb, hH.2.2.1.call hb, hH.2.2.2.1.call hb, bwS hH.2.2.2.2 (Nat.le_refl _) hb⟩)
      (try clear hH); (try clear hb)
      intro hH
      clear hK K
      (try simp only [cq])
      refine tkY 16 (some 66) ?_ ?_ ?_
      rotate_left
      · intro w _; go_simp; (try with_reducible rfl)
      (try simp only [cq])
      refine wpAnyH_done (by kernel_rfl) ?_ _
      (try dsimp only [Act.put])
      (try simp only [cq])
      clear j12 j14 jP jX jB
      obtain ⟨j12, j14, jP, jX, jB⟩ := hH
      cases B2 with
      | true =>
        have hr : r = 3 := by rw [HR.out]; rfl
        subst hr
        go_wp2
        go_ret
        exact ⟨rfl, jB⟩
      | false =>
        have hr : r = 2 := by rw [HR.out]; rfl
        subst hr
        go_wp2
        go_ret
        exact ⟨rfl, jB⟩
end Go.Proofs.Ytfakmggabicdjaa

/-
  Verdicts on loads: bear.verdict, bear.Holds.
-/
import Derived.Test.YtkkljbbgaogifaaTail
import Derived.Test.YtkkljbbgaogifaaVerd
import Derived.Test.YtkkljbbgaogifaaNew
set_option linter.unusedVariables false
set_option linter.unusedSimpArgs false
namespace Go.Proofs.Ytkkljbbgaogifaa
open Go.RowKit

structure Env (p : Pl) (ni : Nat) (I0 I1 : Nat → Int) (nc : Nat) (C0 C1 : Nat → Int) (n : Nat) (L : Nat → Ld) : Prop where
  hp : p.Ok
  hc : ∀ j, j < nc → -1000000000 ≤ C0 j ∧ C0 j ≤ 1000000000 ∧ -1000000000 ≤ C1 j ∧ C1 j ≤ 1000000000
  hi : ∀ k, k < ni → 0 ≤ I0 k ∧ I0 k ≤ I1 k ∧ I1 k ≤ 5000
  hn : LoadsIn n L

theorem worst_any (p : Pl) (aS aC : Option Addr) (nS cS nC cC : Nat) (w : World) :
    Calls Try.prog 110 #[.agg #[.int .i64 p.s0, .int .i64 p.s1, (.slice aS nS cS), (.slice aC nC cC), .int .i64 p.ne, .int .i64 p.ed, .int .i64 p.gr, .int .i64 p.lo, .int .i64 p.hi, .int .i64 p.sh, .int .i64 p.wi]] w fun e w' => e = .returned (.agg #[.bool false, .int .i64 p.s0, .int .i64 p.s1, (.slice aS nS cS), (.slice aC nC cC), .int .i64 p.ne, .int .i64 p.ed, .int .i64 p.gr, .int .i64 p.lo, .int .i64 p.hi, .int .i64 p.sh, .int .i64 p.wi]) ∧ Below w.heap.size w w' := by
  go_enter Try.func110, Try.ntmps110
  go_wp2
  exact bodyPost_ret (v := .agg #[.bool false, .int .i64 p.s0, .int .i64 p.s1, (.slice aS nS cS), (.slice aC nC cC), .int .i64 p.ne, .int .i64 p.ed, .int .i64 p.gr, .int .i64 p.lo, .int .i64 p.hi, .int .i64 p.sh, .int .i64 p.wi]) (by simp [results, Try.results110, go_sem]) rfl ⟨rfl, by (go_split_ands; first | assumption | (repeat (first | exact Below.refl _ _ | assumption | refine Below.drew ?_ | refine Below.drewN ?_ _ | refine blT ?_ | refine blU ?_)))⟩
theorem best_any (p : Pl) (aS aC : Option Addr) (nS cS nC cC : Nat) (w : World) :
    Calls Try.prog 128 #[.agg #[.int .i64 p.s0, .int .i64 p.s1, (.slice aS nS cS), (.slice aC nC cC), .int .i64 p.ne, .int .i64 p.ed, .int .i64 p.gr, .int .i64 p.lo, .int .i64 p.hi, .int .i64 p.sh, .int .i64 p.wi]] w fun e w' => e = .returned (.agg #[.bool true, .int .i64 p.s0, .int .i64 p.s1, (.slice aS nS cS), (.slice aC nC cC), .int .i64 p.ne, .int .i64 p.ed, .int .i64 p.gr, .int .i64 p.lo, .int .i64 p.hi, .int .i64 p.sh, .int .i64 p.wi]) ∧ Below w.heap.size w w' := by
  go_enter Try.func128, Try.ntmps128
  go_wp2
  exact bodyPost_ret (v := .agg #[.bool true, .int .i64 p.s0, .int .i64 p.s1, (.slice aS nS cS), (.slice aC nC cC), .int .i64 p.ne, .int .i64 p.ed, .int .i64 p.gr, .int .i64 p.lo, .int .i64 p.hi, .int .i64 p.sh, .int .i64 p.wi]) (by simp [results, Try.results128, go_sem]) rfl ⟨rfl, by (go_split_ands; first | assumption | (repeat (first | exact Below.refl _ _ | assumption | refine Below.drew ?_ | refine Below.drewN ?_ _ | refine blT ?_ | refine blU ?_)))⟩

set_option maxHeartbeats 2000000 in
theorem bears1_any (p : Pl) (b : Bool) (vS vC vI vK vL : Value) (ni : Nat) (I0 I1 : Nat → Int) (nc : Nat) (C0 C1 : Nat → Int) (n : Nat) (L : Nat → Ld) (he : Env p ni I0 I1 nc C0 C1 n L) (x : Ld) (hx : 0 ≤ x.me ∧ x.me < 100 * (ni : Int) ∧ x.me ≤ 1000000000 ∧ 0 ≤ x.st) (bi bk bx bl : Nat) (w : World)
    (hS : TabAt w vS p.S) (hC : TabAt w vC p.C) (hI : PairsAt w vI ni I0 I1) (hK : PairsAt w vK nc C0 C1) (hL : LoadsAt w vL n L) (ki : Blk w bi #[vI] 42) (kk : Blk w bk #[vK] 42) (kx : Blk w bx #[.int .i64 x.me, .int .i64 x.w0, .int .i64 x.w1, .int .i64 x.st] 53) (kl : Blk w bl #[vL] 43) :
    Calls Try.prog 125 #[.agg #[.bool b, .int .i64 p.s0, .int .i64 p.s1, vS, vC, .int .i64 p.ne, .int .i64 p.ed, .int .i64 p.gr, .int .i64 p.lo, .int .i64 p.hi, .int .i64 p.sh, .int .i64 p.wi], .pointer (some ⟨bi, 0, none⟩), .pointer (some ⟨bk, 0, none⟩), .pointer (some ⟨bx, 0, none⟩), .pointer (some ⟨bl, 0, none⟩)] w fun e w' => e = .returned (.bool (bearsV p b I0 I1 nc C0 C1 n L x)) ∧ Below w.heap.size w w' := by
  obtain ⟨aS, cS, rfl, _, _, _⟩ := id hS
  obtain ⟨aC, cC, rfl, _, _, _⟩ := id hC
  obtain ⟨aI, cI, rfl, _, _, _⟩ := id hI
  obtain ⟨aK, cK, rfl, _, _, _⟩ := id hK
  obtain ⟨aL, cL, rfl, _, _, _⟩ := id hL
  have HT : Hid (∀ W, Below w.heap.size w W → Calls Try.prog 127 #[.agg #[.bool b, .int .i64 p.s0, .int .i64 p.s1, (.slice aS p.S.n cS), (.slice aC p.C.n cC), .int .i64 p.ne, .int .i64 p.ed, .int .i64 p.gr, .int .i64 p.lo, .int .i64 p.hi, .int .i64 p.sh, .int .i64 p.wi], (.slice aI ni cI), (.slice aK nc cK), .int .i64 x.me] W fun e w' => e = .returned (.int .i64 (thickV p b I0 I1 nc C0 C1 x.me)) ∧ Below W.heap.size W w') := fun W hW => thick_any p he.hp b (.slice aS p.S.n cS) (.slice aC p.C.n cC) (.slice aI ni cI) (.slice aK nc cK) ni I0 I1 nc C0 C1 x.me W (hI.later hW) (hK.later hW) he.hc he.hi ⟨hx.1, hx.2.1, hx.2.2.1⟩
  have ht : 0 ≤ thickV p b I0 I1 nc C0 C1 x.me ∧ thickV p b I0 I1 nc C0 C1 x.me ≤ 5000 := by
    have q := he.hi (x.me / 100).toNat (by omega)
    have r := thin_in he.hp.ed0 he.hp.ed1 (nearV p b nc C0 C1 x.me) (x := endV b (I0 (x.me / 100).toNat) (I1 (x.me / 100).toNat)) (by cases b <;> simp [endV] <;> omega)
    have s : endV b (I0 (x.me / 100).toNat) (I1 (x.me / 100).toNat) ≤ 5000 := by cases b <;> simp [endV] <;> omega
    exact ⟨r.1, Int.le_trans r.2 s⟩
  have HB : Hid (∀ W, Below w.heap.size w W → Calls Try.prog 126 #[.agg #[.bool b, .int .i64 p.s0, .int .i64 p.s1, (.slice aS p.S.n cS), (.slice aC p.C.n cC), .int .i64 p.ne, .int .i64 p.ed, .int .i64 p.gr, .int .i64 p.lo, .int .i64 p.hi, .int .i64 p.sh, .int .i64 p.wi], .int .i64 (thickV p b I0 I1 nc C0 C1 x.me), (.slice aL n cL), .agg #[.int .i64 x.me, .int .i64 x.w0, .int .i64 x.w1, .int .i64 x.st]] W fun e w' => e = .returned (.bool (bearsV p b I0 I1 nc C0 C1 n L x)) ∧ Below W.heap.size W w') := fun W hW => bears_any p he.hp b (.slice aS p.S.n cS) (.slice aC p.C.n cC) (.slice aL n cL) _ ht n L he.hn x ⟨hx.1, hx.2.2.1, hx.2.2.2⟩ W (hL.later hW) (hS.later hW) (hC.later hW)
  generalize bearsV p b I0 I1 nc C0 C1 n L x = r at HB ⊢
  generalize thickV p b I0 I1 nc C0 C1 x.me = tv at HT HB
  clear hS hC hI hK hL he hx ht
  have jP := Blk.new w #[.bool b, .int .i64 p.s0, .int .i64 p.s1, (.slice aS p.S.n cS), (.slice aC p.C.n cC), .int .i64 p.ne, .int .i64 p.ed, .int .i64 p.gr, .int .i64 p.lo, .int .i64 p.hi, .int .i64 p.sh, .int .i64 p.wi] 127
  have jB : Below w.heap.size w (w.alloc (.cells #[.bool b, .int .i64 p.s0, .int .i64 p.s1, (.slice aS p.S.n cS), (.slice aC p.C.n cC), .int .i64 p.ne, .int .i64 p.ed, .int .i64 p.gr, .int .i64 p.lo, .int .i64 p.hi, .int .i64 p.sh, .int .i64 p.wi] 127)) := by (repeat (first | exact Below.refl _ _ | assumption | refine Below.drew ?_ | refine Below.drewN ?_ _ | refine blT ?_ | refine blU ?_))
  replace ki := ki.call jB
  replace kk := kk.call jB
  replace kx := kx.call jB
  replace kl := kl.call jB
  go_enter Try.func125, Try.ntmps125
  go_wp2_with fail
  refine wp_region_held_drew (S := (fun w' => Blk w' w.heap.size #[.bool b, .int .i64 p.s0, .int .i64 p.s1, (.slice aS p.S.n cS), (.slice aC p.C.n cC), .int .i64 p.ne, .int .i64 p.ed, .int .i64 p.gr, .int .i64 p.lo, .int .i64 p.hi, .int .i64 p.sh, .int .i64 p.wi] 127 ∧ Blk w' bi #[(.slice aI ni cI)] 42 ∧ Blk w' bk #[(.slice aK nc cK)] 42 ∧ Blk w' bx #[.int .i64 x.me, .int .i64 x.w0, .int .i64 x.w1, .int .i64 x.st] 53 ∧ Blk w' bl #[(.slice aL n cL)] 43 ∧ Below w.heap.size w w')) (by kernel_rfl) ?_ (fun hH => ?_)
  · (try dsimp only); (exact ⟨jP.drew, ki.drew, kk.drew, kx.drew, kl.drew, jB.drew⟩)
  refine tkY 0 (some 7) ?_ ?_ ?_
  rotate_left
  · intro w hS0; (try dsimp only at hS0); obtain ⟨kP, k1, k2, k3, k4, _⟩ := hS0; obtain ⟨c0, c1, c2, c3, c4, c5, c6, c7, c8, c9, c10, c11⟩ := kP.c12; obtain ⟨x0, x1, x2, x3⟩ := k3.c4; have l1 := k1.cell1; have l2 := k2.cell1; have l4 := k4.cell1; have y0 := kP.lt; have y1 := k1.lt; have y2 := k2.lt; have y3 := k3.lt; have y4 := k4.lt;go_simp; (try with_reducible rfl)
  (try simp only [cq])
  refine tkY 1 (some 8) ?_ ?_ ?_
  rotate_left
  · intro w hS0; (try dsimp only at hS0); obtain ⟨kP, k1, k2, k3, k4, _⟩ := hS0; obtain ⟨c0, c1, c2, c3, c4, c5, c6, c7, c8, c9, c10, c11⟩ := kP.c12; obtain ⟨x0, x1, x2, x3⟩ := k3.c4; have l1 := k1.cell1; have l2 := k2.cell1; have l4 := k4.cell1; have y0 := kP.lt; have y1 := k1.lt; have y2 := k2.lt; have y3 := k3.lt; have y4 := k4.lt;go_simp; (try with_reducible rfl)
  (try simp only [cq])
  refine tkY 2 (some 9) ?_ ?_ ?_
  rotate_left
  · intro w hS0; (try dsimp only at hS0); obtain ⟨kP, k1, k2, k3, k4, _⟩ := hS0; obtain ⟨c0, c1, c2, c3, c4, c5, c6, c7, c8, c9, c10, c11⟩ := kP.c12; obtain ⟨x0, x1, x2, x3⟩ := k3.c4; have l1 := k1.cell1; have l2 := k2.cell1; have l4 := k4.cell1; have y0 := kP.lt; have y1 := k1.lt; have y2 := k2.lt; have y3 := k3.lt; have y4 := k4.lt;go_simp; (try with_reducible rfl)
  (try simp only [cq])
  refine tkY 3 (some 10) ?_ ?_ ?_
  rotate_left
  · intro w hS0; (try dsimp only at hS0); obtain ⟨kP, k1, k2, k3, k4, _⟩ := hS0; obtain ⟨c0, c1, c2, c3, c4, c5, c6, c7, c8, c9, c10, c11⟩ := kP.c12; obtain ⟨x0, x1, x2, x3⟩ := k3.c4; have l1 := k1.cell1; have l2 := k2.cell1; have l4 := k4.cell1; have y0 := kP.lt; have y1 := k1.lt; have y2 := k2.lt; have y3 := k3.lt; have y4 := k4.lt;go_simp; (try with_reducible rfl)
  (try simp only [cq])
  refine tkY 4 (some 11) ?_ ?_ ?_
  rotate_left
  · intro w hS0; (try dsimp only at hS0); obtain ⟨kP, k1, k2, k3, k4, _⟩ := hS0; obtain ⟨c0, c1, c2, c3, c4, c5, c6, c7, c8, c9, c10, c11⟩ := kP.c12; obtain ⟨x0, x1, x2, x3⟩ := k3.c4; have l1 := k1.cell1; have l2 := k2.cell1; have l4 := k4.cell1; have y0 := kP.lt; have y1 := k1.lt; have y2 := k2.lt; have y3 := k3.lt; have y4 := k4.lt;go_simp; (try with_reducible rfl)
  (try simp only [cq])
  refine tkY 5 (some 12) ?_ ?_ ?_
  rotate_left
  · intro w hS0; (try dsimp only at hS0); obtain ⟨kP, k1, k2, k3, k4, _⟩ := hS0; obtain ⟨c0, c1, c2, c3, c4, c5, c6, c7, c8, c9, c10, c11⟩ := kP.c12; obtain ⟨x0, x1, x2, x3⟩ := k3.c4; have l1 := k1.cell1; have l2 := k2.cell1; have l4 := k4.cell1; have y0 := kP.lt; have y1 := k1.lt; have y2 := k2.lt; have y3 := k3.lt; have y4 := k4.lt;go_simp; (try with_reducible rfl)
  (try simp only [cq])
  refine tkY 7 (some 14) ?_ ?_ ?_
  rotate_left
  · intro w hS0; (try dsimp only at hS0); obtain ⟨kP, k1, k2, k3, k4, _⟩ := hS0; obtain ⟨c0, c1, c2, c3, c4, c5, c6, c7, c8, c9, c10, c11⟩ := kP.c12; obtain ⟨x0, x1, x2, x3⟩ := k3.c4; have l1 := k1.cell1; have l2 := k2.cell1; have l4 := k4.cell1; have y0 := kP.lt; have y1 := k1.lt; have y2 := k2.lt; have y3 := k3.lt; have y4 := k4.lt;go_simp; (try with_reducible rfl)
  (try simp only [cq])
  refine tkY 8 (some 15) ?_ ?_ ?_
  rotate_left
  · intro w hS0; (try dsimp only at hS0); obtain ⟨kP, k1, k2, k3, k4, _⟩ := hS0; obtain ⟨c0, c1, c2, c3, c4, c5, c6, c7, c8, c9, c10, c11⟩ := kP.c12; obtain ⟨x0, x1, x2, x3⟩ := k3.c4; have l1 := k1.cell1; have l2 := k2.cell1; have l4 := k4.cell1; have y0 := kP.lt; have y1 := k1.lt; have y2 := k2.lt; have y3 := k3.lt; have y4 := k4.lt;go_simp; (try with_reducible rfl)
  (try simp only [cq])
  refine wpAnyH_ready (rs := [6]) (by kernel_rfl) (by simp) ?_
  refine arc1 (some 13) fun K hK => ?_
  go_simp
  (refine (HT.out _ hH.2.2.2.2.2).mono ?_; rintro e w' ⟨rfl, hb⟩)
  refine hK.out _ _ ?_ ?_
  · (exact ⟨hH.1.call hb, hH.2.1.call hb, hH.2.2.1.call hb, hH.2.2.2.1.call hb, hH.2.2.2.2.1.call hb, bwS hH.2.2.2.2.2 (Nat.le_refl _) hb⟩)
  (try clear hH); (try clear hb)
  intro hH
  clear hK K
  (try simp only [cq])
  refine wpAnyH_ready (rs := [9]) (by kernel_rfl) (by simp) ?_
  refine arc1 (some 16) fun K hK => ?_
  go_simp
  (refine (HB.out _ hH.2.2.2.2.2).mono ?_; rintro e w' ⟨rfl, hb⟩)
  refine hK.out _ _ ?_ ?_
  · (exact ⟨hH.1.call hb, hH.2.1.call hb, hH.2.2.1.call hb, hH.2.2.2.1.call hb, hH.2.2.2.2.1.call hb, bwS hH.2.2.2.2.2 (Nat.le_refl _) hb⟩)
  (try clear hH); (try clear hb)
  intro hH
  clear hK K
  (try simp only [cq])
  refine tkY 10 (some 6) ?_ ?_ ?_
  rotate_left
  · intro w _; go_simp; (try with_reducible rfl)
  (try simp only [cq])
  refine wpAnyH_done (by kernel_rfl) ?_ _
  (try dsimp only [Act.put])
  (try simp only [cq])
  have hBB := hH.2.2.2.2.2
  clear hH
  go_wp2
  go_ret
  exact ⟨rfl, hBB⟩

set_option maxHeartbeats 2000000 in
theorem verdict_any (p : Pl) (vS vC vI vK vL : Value) (ni : Nat) (I0 I1 : Nat → Int) (nc : Nat) (C0 C1 : Nat → Int) (n : Nat) (L : Nat → Ld) (he : Env p ni I0 I1 nc C0 C1 n L) (x : Ld) (hx : 0 ≤ x.me ∧ x.me < 100 * (ni : Int) ∧ x.me ≤ 1000000000 ∧ 0 ≤ x.st) (w : World)
    (hS : TabAt w vS p.S) (hC : TabAt w vC p.C) (hI : PairsAt w vI ni I0 I1) (hK : PairsAt w vK nc C0 C1) (hL : LoadsAt w vL n L) :
    Calls Try.prog 88 #[.agg #[.int .i64 p.s0, .int .i64 p.s1, vS, vC, .int .i64 p.ne, .int .i64 p.ed, .int .i64 p.gr, .int .i64 p.lo, .int .i64 p.hi, .int .i64 p.sh, .int .i64 p.wi], vI, vK, vL, .agg #[.int .i64 x.me, .int .i64 x.w0, .int .i64 x.w1, .int .i64 x.st]] w fun e w' => e = .returned (.int .i64 (verdV p I0 I1 nc C0 C1 n L x)) ∧ Below w.heap.size w w' := by
  obtain ⟨aS, cS, rfl, _, _, _⟩ := id hS
  obtain ⟨aC, cC, rfl, _, _, _⟩ := id hC
  obtain ⟨aI, cI, rfl, _, _, _⟩ := id hI
  obtain ⟨aK, cK, rfl, _, _, _⟩ := id hK
  obtain ⟨aL, cL, rfl, _, _, _⟩ := id hL
  have jP : Blk _ _ #[.int .i64 p.s0, .int .i64 p.s1, (.slice aS p.S.n cS), (.slice aC p.C.n cC), .int .i64 p.ne, .int .i64 p.ed, .int .i64 p.gr, .int .i64 p.lo, .int .i64 p.hi, .int .i64 p.sh, .int .i64 p.wi] _ := ((((Blk.new w #[.int .i64 p.s0, .int .i64 p.s1, (.slice aS p.S.n cS), (.slice aC p.C.n cC), .int .i64 p.ne, .int .i64 p.ed, .int .i64 p.gr, .int .i64 p.lo, .int .i64 p.hi, .int .i64 p.sh, .int .i64 p.wi] 26).alloc (.cells #[(.slice aI ni cI)] 42)).alloc (.cells #[(.slice aK nc cK)] 42)).alloc (.cells #[(.slice aL n cL)] 43)).alloc (.cells #[.int .i64 x.me, .int .i64 x.w0, .int .i64 x.w1, .int .i64 x.st] 53)
  have jI : Blk _ _ #[(.slice aI ni cI)] _ := (((Blk.new1 w (.cells #[.int .i64 p.s0, .int .i64 p.s1, (.slice aS p.S.n cS), (.slice aC p.C.n cC), .int .i64 p.ne, .int .i64 p.ed, .int .i64 p.gr, .int .i64 p.lo, .int .i64 p.hi, .int .i64 p.sh, .int .i64 p.wi] 26) #[(.slice aI ni cI)] 42).alloc (.cells #[(.slice aK nc cK)] 42)).alloc (.cells #[(.slice aL n cL)] 43)).alloc (.cells #[.int .i64 x.me, .int .i64 x.w0, .int .i64 x.w1, .int .i64 x.st] 53)
  have jK : Blk _ _ #[(.slice aK nc cK)] _ := ((Blk.new2 w (.cells #[.int .i64 p.s0, .int .i64 p.s1, (.slice aS p.S.n cS), (.slice aC p.C.n cC), .int .i64 p.ne, .int .i64 p.ed, .int .i64 p.gr, .int .i64 p.lo, .int .i64 p.hi, .int .i64 p.sh, .int .i64 p.wi] 26) (.cells #[(.slice aI ni cI)] 42) #[(.slice aK nc cK)] 42).alloc (.cells #[(.slice aL n cL)] 43)).alloc (.cells #[.int .i64 x.me, .int .i64 x.w0, .int .i64 x.w1, .int .i64 x.st] 53)
  have jL : Blk _ _ #[(.slice aL n cL)] _ := (Blk.new3 w (.cells #[.int .i64 p.s0, .int .i64 p.s1, (.slice aS p.S.n cS), (.slice aC p.C.n cC), .int .i64 p.ne, .int .i64 p.ed, .int .i64 p.gr, .int .i64 p.lo, .int .i64 p.hi, .int .i64 p.sh, .int .i64 p.wi] 26) (.cells #[(.slice aI ni cI)] 42) (.cells #[(.slice aK nc cK)] 42) #[(.slice aL n cL)] 43).alloc (.cells #[.int .i64 x.me, .int .i64 x.w0, .int .i64 x.w1, .int .i64 x.st] 53)
  have jX : Blk _ _ #[.int .i64 x.me, .int .i64 x.w0, .int .i64 x.w1, .int .i64 x.st] _ := Blk.new ((((w.alloc (.cells #[.int .i64 p.s0, .int .i64 p.s1, (.slice aS p.S.n cS), (.slice aC p.C.n cC), .int .i64 p.ne, .int .i64 p.ed, .int .i64 p.gr, .int .i64 p.lo, .int .i64 p.hi, .int .i64 p.sh, .int .i64 p.wi] 26)).alloc (.cells #[(.slice aI ni cI)] 42)).alloc (.cells #[(.slice aK nc cK)] 42)).alloc (.cells #[(.slice aL n cL)] 43)) #[.int .i64 x.me, .int .i64 x.w0, .int .i64 x.w1, .int .i64 x.st] 53
  have jB : Below w.heap.size w (((((w.alloc (.cells #[.int .i64 p.s0, .int .i64 p.s1, (.slice aS p.S.n cS), (.slice aC p.C.n cC), .int .i64 p.ne, .int .i64 p.ed, .int .i64 p.gr, .int .i64 p.lo, .int .i64 p.hi, .int .i64 p.sh, .int .i64 p.wi] 26)).alloc (.cells #[(.slice aI ni cI)] 42)).alloc (.cells #[(.slice aK nc cK)] 42)).alloc (.cells #[(.slice aL n cL)] 43)).alloc (.cells #[.int .i64 x.me, .int .i64 x.w0, .int .i64 x.w1, .int .i64 x.st] 53)) := by (repeat (first | exact Below.refl _ _ | assumption | refine Below.drew ?_ | refine Below.drewN ?_ _ | refine blT ?_ | refine blU ?_))
  simp only [World.size_alloc] at jX
  have H : Hid (∀ b W, Below w.heap.size w W → Blk W (w.heap.size + 1) #[(.slice aI ni cI)] 42 → Blk W (w.heap.size + 1 + 1) #[(.slice aK nc cK)] 42 → Blk W (w.heap.size + 1 + 1 + 1 + 1) #[.int .i64 x.me, .int .i64 x.w0, .int .i64 x.w1, .int .i64 x.st] 53 → Blk W (w.heap.size + 1 + 1 + 1) #[(.slice aL n cL)] 43 → Calls Try.prog 125 #[.agg #[.bool b, .int .i64 p.s0, .int .i64 p.s1, (.slice aS p.S.n cS), (.slice aC p.C.n cC), .int .i64 p.ne, .int .i64 p.ed, .int .i64 p.gr, .int .i64 p.lo, .int .i64 p.hi, .int .i64 p.sh, .int .i64 p.wi], .pointer (some ⟨w.heap.size + 1, 0, none⟩), .pointer (some ⟨w.heap.size + 1 + 1, 0, none⟩), .pointer (some ⟨w.heap.size + 1 + 1 + 1 + 1, 0, none⟩), .pointer (some ⟨w.heap.size + 1 + 1 + 1, 0, none⟩)] W fun e w' => e = .returned (.bool (bearsV p b I0 I1 nc C0 C1 n L x)) ∧ Below W.heap.size W w') := fun b W hW k1 k2 k3 k4 =>
    bears1_any p b (.slice aS p.S.n cS) (.slice aC p.C.n cC) (.slice aI ni cI) (.slice aK nc cK) (.slice aL n cL) ni I0 I1 nc C0 C1 n L he x hx _ _ _ _ W (hS.later hW) (hC.later hW) (hI.later hW) (hK.later hW) (hL.later hW) k1 k2 k3 k4
  have HV : Hid (verdV p I0 I1 nc C0 C1 n L x = if bearsV p false I0 I1 nc C0 C1 n L x then 1 else if bearsV p true I0 I1 nc C0 C1 n L x then 3 else 2) := rfl
  generalize verdV p I0 I1 nc C0 C1 n L x = r at HV ⊢
  have H0 : Hid _ := H.out false
  have H1 : Hid _ := H.out true
  generalize bearsV p false I0 I1 nc C0 C1 n L x = q0 at HV H0
  generalize bearsV p true I0 I1 nc C0 C1 n L x = q1 at HV H1
  clear H hS hC hI hK hL he hx
  go_enter Try.func88, Try.ntmps88
  go_wp2_with fail
  refine (worst_any _ _ _ _ _ _ _ _).mono ?_
  rintro e w1 ⟨rfl, hb⟩
  replace jP := jP.call hb
  replace jI := jI.call hb
  replace jK := jK.call hb
  replace jL := jL.call hb
  replace jX := jX.call hb
  replace jB := bwS jB (Nat.le_refl _) hb
  clear hb
  go_wp2_with fail
  refine (H0.out _ jB jI jK jX jL).mono ?_
  rintro e w2 ⟨rfl, hb⟩
  replace jP := jP.call hb
  replace jI := jI.call hb
  replace jK := jK.call hb
  replace jL := jL.call hb
  replace jX := jX.call hb
  replace jB := bwS jB (Nat.le_refl _) hb
  clear hb
  clear H0
  have hr := HV.out
  clear HV
  cases q0 with
  | true =>
    simp only [if_true] at hr
    subst hr
    go_wp2
    go_ret
    exact ⟨rfl, jB⟩
  | false =>
    simp only [Bool.false_eq_true, if_false] at hr
    obtain ⟨c0, c1, c2, c3, c4, c5, c6, c7, c8, c9, c10⟩ := jP.c11
    have zP := jP.lt
    go_wp2_with fail
    clear c0 c1 c2 c3 c4 c5 c6 c7 c8 c9 c10 zP
    refine (best_any _ _ _ _ _ _ _ _).mono ?_
    rintro e w3 ⟨rfl, hb⟩
    replace jP := jP.call hb
    replace jI := jI.call hb
    replace jK := jK.call hb
    replace jL := jL.call hb
    replace jX := jX.call hb
    replace jB := bwS jB (Nat.le_refl _) hb
    clear hb
    go_wp2_with fail
    refine (H1.out _ jB jI jK jX jL).mono ?_
    rintro e w4 ⟨rfl, hb⟩
    replace jP := jP.call hb
    replace jI := jI.call hb
    replace jK := jK.call hb
    replace jL := jL.call hb
    replace jX := jX.call hb
    replace jB := bwS jB (Nat.le_refl _) hb
    clear hb
    clear H1
    cases q1 with
    | true =>
      simp only [if_true] at hr
      subst hr
      go_wp2
      go_ret
      exact ⟨rfl, jB⟩
    | false =>
      simp only [Bool.false_eq_true, if_false] at hr
      subst hr
      go_wp2
      go_ret
      exact ⟨rfl, jB⟩
end Go.Proofs.Ytkkljbbgaogifaa

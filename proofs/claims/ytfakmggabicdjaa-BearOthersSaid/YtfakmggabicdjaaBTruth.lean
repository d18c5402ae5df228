/-
  BearTruth says yes.
-/
import Derived.Test.YtfakmggabicdjaaTail
import Derived.Test.YtfakmggabicdjaaAwk2
set_option linter.unusedVariables false
set_option linter.unusedSimpArgs false
namespace Go.Proofs.Ytfakmggabicdjaa
open Go.RowKit

theorem blk_ne {w : World} {a b : Nat} {C D : Array Value} {t s : TypeId} (h : Blk w a C t) (k : Blk w b D s) (ht : t ≠ s) : a ≠ b := by
  intro e
  subst e
  have q : some (Obj.cells C t (0, 0)) = some (Obj.cells D s (0, 0)) := h.symm.trans k
  simp at q
  exact ht q.2
theorem row_put {w : World} {base s n : Nat} {e : TypeId} {v : Value} {xs : List Value} (r : w.ownsRow base e s v n xs) {b : Nat} {C : Array Value} {t : TypeId} (k : Blk w b C t) (ht : t ≠ e) (j : Nat) (u : Value) : (w.setCell ⟨b, j, none⟩ u).ownsRow base e s v n xs := by
  refine r.kept (row := some b) ⟨rfl, rfl, rfl, by simp, fun i _ hne => Below.heap_setCell w _ u i (fun e => hne (by rw [e]))⟩ ?_
  rcases r.2 with ⟨rfl, _⟩ | ⟨g, cap, cur, rfl, _, hg, _⟩
  · exact .inl rfl
  · refine .inr ?_
    simp only [Value.ownBlock]
    intro e2
    simp only [Option.some.injEq] at e2
    exact blk_ne k (show Blk w g cur e from hg) ht (by first | exact e2.symm | exact e2)
theorem row_put4 {w : World} {base s n : Nat} {e : TypeId} {v : Value} {xs : List Value} (r : w.ownsRow base e s v n xs) {b : Nat} {x0 x1 x2 x3 : Value} {t : TypeId} (k : Blk w b #[x0, x1, x2, x3] t) (ht : t ≠ e) (y0 y1 y2 y3 : Value) :
    ((((w.setCell ⟨b, 0, none⟩ y0).setCell ⟨b, 1, none⟩ y1).setCell ⟨b, 2, none⟩ y2).setCell ⟨b, 3, none⟩ y3).ownsRow base e s v n xs :=
  row_put (row_put (row_put (row_put r k ht 0 y0) (k.set 0 y0) ht 1 y1) ((k.set 0 y0).set 1 y1) ht 2 y2) (((k.set 0 y0).set 1 y1).set 2 y2) ht 3 y3
theorem Rows.drawn {bs base : Nat} {w v : World} {p : Pl} {vS vC vI vK vL : Value} {ni : Nat} {I0 I1 : Nat → Int} {nc : Nat} {C0 C1 : Nat → Int} {n : Nat} {L : Nat → Ld} (h : Rows w base p vS vC vI vK vL ni I0 I1 nc C0 C1 n L) (d : Drawn bs w v) (hb : bs < base) : Rows v base p vS vC vI vK vL ni I0 I1 nc C0 C1 n L :=
  ⟨d.row h.S hb, d.row h.C hb, d.row h.I hb, d.row h.K hb, d.row h.L hb⟩
theorem Rows.alloc {base : Nat} {w : World} {p : Pl} {vS vC vI vK vL : Value} {ni : Nat} {I0 I1 : Nat → Int} {nc : Nat} {C0 C1 : Nat → Int} {n : Nat} {L : Nat → Ld} (h : Rows w base p vS vC vI vK vL ni I0 I1 nc C0 C1 n L) (o : Obj) : Rows (w.alloc o) base p vS vC vI vK vL ni I0 I1 nc C0 C1 n L :=
  ⟨h.S.alloc o, h.C.alloc o, h.I.alloc o, h.K.alloc o, h.L.alloc o⟩
theorem Rows.drew {base : Nat} {w : World} {p : Pl} {vS vC vI vK vL : Value} {ni : Nat} {I0 I1 : Nat → Int} {nc : Nat} {C0 C1 : Nat → Int} {n : Nat} {L : Nat → Ld} (h : Rows w base p vS vC vI vK vL ni I0 I1 nc C0 C1 n L) : Rows w.drew base p vS vC vI vK vL ni I0 I1 nc C0 C1 n L := ⟨h.S, h.C, h.I, h.K, h.L⟩
theorem Rows.call {base : Nat} {w v : World} {p : Pl} {vS vC vI vK vL : Value} {ni : Nat} {I0 I1 : Nat → Int} {nc : Nat} {C0 C1 : Nat → Int} {n : Nat} {L : Nat → Ld} (h : Rows w base p vS vC vI vK vL ni I0 I1 nc C0 C1 n L) (hb : Below w.heap.size w v) : Rows v base p vS vC vI vK vL ni I0 I1 nc C0 C1 n L :=
  ⟨row_call h.S hb, row_call h.C hb, row_call h.I hb, row_call h.K hb, row_call h.L hb⟩
theorem Rows.base {base b2 : Nat} {w : World} {p : Pl} {vS vC vI vK vL : Value} {ni : Nat} {I0 I1 : Nat → Int} {nc : Nat} {C0 C1 : Nat → Int} {n : Nat} {L : Nat → Ld} (h : Rows w base p vS vC vI vK vL ni I0 I1 nc C0 C1 n L) (hb : b2 ≤ base) : Rows w b2 p vS vC vI vK vL ni I0 I1 nc C0 C1 n L :=
  ⟨ownsRow_base h.S hb, ownsRow_base h.C hb, ownsRow_base h.I hb, ownsRow_base h.K hb, ownsRow_base h.L hb⟩
theorem Rows.put4 {base : Nat} {w : World} {p : Pl} {vS vC vI vK vL : Value} {ni : Nat} {I0 I1 : Nat → Int} {nc : Nat} {C0 C1 : Nat → Int} {n : Nat} {L : Nat → Ld} (h : Rows w base p vS vC vI vK vL ni I0 I1 nc C0 C1 n L) {b : Nat} {x0 x1 x2 x3 : Value} (k : Blk w b #[x0, x1, x2, x3] 77) (y0 y1 y2 y3 : Value) : Rows ((((w.setCell ⟨b, 0, none⟩ y0).setCell ⟨b, 1, none⟩ y1).setCell ⟨b, 2, none⟩ y2).setCell ⟨b, 3, none⟩ y3) base p vS vC vI vK vL ni I0 I1 nc C0 C1 n L :=
  ⟨row_put4 h.S k (by decide) _ _ _ _, row_put4 h.C k (by decide) _ _ _ _, row_put4 h.I k (by decide) _ _ _ _, row_put4 h.K k (by decide) _ _ _ _, row_put4 h.L k (by decide) _ _ _ _⟩
theorem SeedAt.put4 {bs : Nat} {w : World} (h : SeedAt bs w) {b : Nat} {x0 x1 x2 x3 : Value} (k : Blk w b #[x0, x1, x2, x3] 77) (y0 y1 y2 y3 : Value) : SeedAt bs ((((w.setCell ⟨b, 0, none⟩ y0).setCell ⟨b, 1, none⟩ y1).setCell ⟨b, 2, none⟩ y2).setCell ⟨b, 3, none⟩ y3) := by
  obtain ⟨u, q⟩ := h
  exact ⟨u, q.other4 (blk_ne q k (by decide)) _ _ _ _⟩
theorem below_set4 {B : Nat} {w W : World} (h : Below B w W) {b : Nat} (hb : B ≤ b) (y0 y1 y2 y3 : Value) : Below B w ((((W.setCell ⟨b, 0, none⟩ y0).setCell ⟨b, 1, none⟩ y1).setCell ⟨b, 2, none⟩ y2).setCell ⟨b, 3, none⟩ y3) :=
  (((h.setCell hb _).setCell hb _).setCell hb _).setCell hb _

set_option maxRecDepth 100000 in
set_option maxHeartbeats 16000000 in
theorem btruth_any (a : Option Addr) (len cap : Nat) (w : World) (hn : NumsAt w a len) :
    Calls Try.prog 9 #[.slice a len cap] w fun e w' => e = .returned (.bool true) ∧ Below w.heap.size w w' := by
  go_enter Try.func9, Try.ntmps9
  go_wp2_with fail
  refine (newseed_at a len cap _ hn).mono ?_
  rintro e w1 ⟨rfl, hS, jB⟩
  clear hn
  obtain ⟨bs, hbs⟩ : ∃ b, w.heap.size = b := ⟨_, rfl⟩
  have zwbs : w.heap.size ≤ bs := by omega
  rw [hbs] at hS ⊢
  have hb1 : bs < w1.heap.size := hS.choose_spec.lt
  have HBS := Lib.hid hbs
  clear hbs
  go_wp2_with fail
  refine (madeof_in bs w1 hS).mono ?_
  rintro e w2 ⟨p, vS, vC, vI, vK, vL, ni, I0, I1, nc, C0, C1, n, L, rfl, hM, hR, hd⟩
  replace jB := Drawn.below jB hd zwbs
  replace hS := hd.seed
  replace hR := hR.base (b2 := bs + 1) (by omega)
  clear hd
  obtain ⟨aS, cS, rfl, _, _, _⟩ := pairs_of_row hR.S
  obtain ⟨aC, cC, rfl, _, _, _⟩ := pairs_of_row hR.C
  obtain ⟨aI, cI, rfl, _, _, _⟩ := pairs_of_row hR.I
  obtain ⟨aK, cK, rfl, _, _, _⟩ := pairs_of_row hR.K
  obtain ⟨aL, cL, rfl, _, _, _⟩ := loads_of_row hR.L
  have jX := Blk.new w2 #[.int .i64 p.s0, .int .i64 p.s1, (.slice aS p.S.n cS), (.slice aC p.C.n cC), .int .i64 p.ne, .int .i64 p.ed, .int .i64 p.gr, .int .i64 p.lo, .int .i64 p.hi, .int .i64 p.sh, .int .i64 p.wi, (.slice aI ni cI), (.slice aK nc cK), (.slice aL n cL)] 71
  go_upto_region 3 with fail
  obtain ⟨bX, hbX⟩ : ∃ b, w2.heap.size = b := ⟨_, rfl⟩
  have zX : bs < bX := by rw [← hbX]; exact hS.choose_spec.lt
  rw [hbX] at jX
  (try rw [hbX])
  clear hbX
  replace hR := hR.alloc (.cells #[.int .i64 p.s0, .int .i64 p.s1, (.slice aS p.S.n cS), (.slice aC p.C.n cC), .int .i64 p.ne, .int .i64 p.ed, .int .i64 p.gr, .int .i64 p.lo, .int .i64 p.hi, .int .i64 p.sh, .int .i64 p.wi, (.slice aI ni cI), (.slice aK nc cK), (.slice aL n cL)] 71)
  replace hS : SeedAt bs _ := hS.imp fun _ h => h.alloc (.cells #[.int .i64 p.s0, .int .i64 p.s1, (.slice aS p.S.n cS), (.slice aC p.C.n cC), .int .i64 p.ne, .int .i64 p.ed, .int .i64 p.gr, .int .i64 p.lo, .int .i64 p.hi, .int .i64 p.sh, .int .i64 p.wi, (.slice aI ni cI), (.slice aK nc cK), (.slice aL n cL)] 71)
  replace jB := bwA jB (Nat.le_refl _) (.cells #[.int .i64 p.s0, .int .i64 p.s1, (.slice aS p.S.n cS), (.slice aC p.C.n cC), .int .i64 p.ne, .int .i64 p.ed, .int .i64 p.gr, .int .i64 p.lo, .int .i64 p.hi, .int .i64 p.sh, .int .i64 p.wi, (.slice aI ni cI), (.slice aK nc cK), (.slice aL n cL)] 71)
  generalize w2.alloc (.cells #[.int .i64 p.s0, .int .i64 p.s1, (.slice aS p.S.n cS), (.slice aC p.C.n cC), .int .i64 p.ne, .int .i64 p.ed, .int .i64 p.gr, .int .i64 p.lo, .int .i64 p.hi, .int .i64 p.sh, .int .i64 p.wi, (.slice aI ni cI), (.slice aK nc cK), (.slice aL n cL)] 71) = V at jX hR hS jB ⊢
  obtain ⟨m0, m1, m2, m3, m4, m5, m6, m7, m8, m9, m10, m11, m12, m13⟩ := jX.c14
  have zM := jX.lt
  go_wp2_with fail
  clear m0 m1 m2 m3 m4 m5 m6 m7 m8 m9 m10 m11 m12 m13 zM
  refine (holds_valid hM.hp (by have := hM.ni4; omega) (fun i hi => by have := hM.hi i hi; omega) (by have := hM.nc3; omega) (fun i hi => by have := hM.hc i hi; omega) (by have := hM.n5; omega) hM.hL _ _ _ _ _ _ (pairs_of_row hR.S) (pairs_of_row hR.C) (pairs_of_row hR.I) (pairs_of_row hR.K) (loads_of_row hR.L)).mono ?_
  rintro e w3 ⟨vR, rfl, rR, hb⟩
  have zV := jX.lt
  replace rR := ownsRow_base (b1 := bs + 1) rR (by omega)
  clear zV
  replace jX := jX.call hb
  replace hR := hR.call hb
  replace hS : SeedAt bs _ := hS.imp fun _ h => h.call hb
  replace jB := bwS jB (Nat.le_refl _) hb
  clear hb
  obtain ⟨aR, cR, rfl, _, _, _⟩ := ints_of_row rR
  obtain ⟨X, hX⟩ : ∃ X : Nat → Int, X = fun i => verdV p I0 I1 nc C0 C1 n L (L i) := ⟨_, rfl⟩
  rw [← hX] at rR
  have HX := Lib.hid hX
  clear hX
  obtain ⟨m0, m1, m2, m3, m4, m5, m6, m7, m8, m9, m10, m11, m12, m13⟩ := jX.c14
  have zM := jX.lt
  go_upto_region 6 with fail
  clear m0 m1 m2 m3 m4 m5 m6 m7 m8 m9 m10 m11 m12 m13 zM
  have hp0 := hM.hp.s0
  have hp1 := hM.hp.s1
  have hp2 := hM.hp.s01
  have HM := Lib.hid hM
  clear hM
  go_cut [7] (fun s7 wx => ∃ (bT : Nat) (vT vc vW : Value) (t : Tr), s7 = .pointer (some ⟨bT, 0, none⟩) ∧ Blk wx bT #[.int .i64 t.σ, vT, vc, vW] 77 ∧ IntsAt wx vT ni t.T ∧ IntsAt wx vc nc t.c ∧ IntsAt wx vW n t.W ∧ (p.s0 ≤ t.σ ∧ t.σ ≤ p.s1) ∧ (∀ i, i < ni → I0 i ≤ t.T i ∧ t.T i ≤ I1 i) ∧ (∀ i, i < nc → C0 i ≤ t.c i ∧ t.c i ≤ C1 i) ∧ (∀ i, i < n → (L i).w0 ≤ t.W i ∧ t.W i ≤ (L i).w1) ∧ Blk wx bX #[.int .i64 p.s0, .int .i64 p.s1, (.slice aS p.S.n cS), (.slice aC p.C.n cC), .int .i64 p.ne, .int .i64 p.ed, .int .i64 p.gr, .int .i64 p.lo, .int .i64 p.hi, .int .i64 p.sh, .int .i64 p.wi, (.slice aI ni cI), (.slice aK nc cK), (.slice aL n cL)] 71 ∧ Rows wx (bs + 1) p (.slice aS p.S.n cS) (.slice aC p.C.n cC) (.slice aI ni cI) (.slice aK nc cK) (.slice aL n cL) ni I0 I1 nc C0 C1 n L ∧ wx.ownsRow (bs + 1) 3 1 (.slice aR n cR) n (catC (intC X) n) ∧ SeedAt bs wx ∧ Below w.heap.size w wx)
  case first =>
    (
 refine wp_region_held_drew (S := (fun w' => Blk w' bX #[.int .i64 p.s0, .int .i64 p.s1, (.slice aS p.S.n cS), (.slice aC p.C.n cC), .int .i64 p.ne, .int .i64 p.ed, .int .i64 p.gr, .int .i64 p.lo, .int .i64 p.hi, .int .i64 p.sh, .int .i64 p.wi, (.slice aI ni cI), (.slice aK nc cK), (.slice aL n cL)] 71 ∧ Rows w' (bs + 1) p (.slice aS p.S.n cS) (.slice aC p.C.n cC) (.slice aI ni cI) (.slice aK nc cK) (.slice aL n cL) ni I0 I1 nc C0 C1 n L ∧ w'.ownsRow (bs + 1) 3 1 (.slice aR n cR) n (catC (intC X) n) ∧ SeedAt bs w' ∧ Below w.heap.size w w')) (by kernel_rfl) ?_ (fun hH => ?_)
 · (try dsimp only); (exact ⟨jX.drew, hR.drew, rR, hS, jB.drew⟩)
 refine tkY 0 (some 36) ?_ ?_ ?_
 rotate_left
 · intro w _; go_simp; (try with_reducible rfl)
 (try simp only [cq])
 refine tkY 1 (some 37) ?_ ?_ ?_
 rotate_left
 · intro w hS0; (try dsimp only at hS0); obtain ⟨kX, _⟩ := hS0; obtain ⟨m0, m1, m2, m3, m4, m5, m6, m7, m8, m9, m10, m11, m12, m13⟩ := kX.c14; have y1 := kX.lt;go_simp; (try with_reducible rfl)
 (try simp only [cq])
 refine tkY 2 (some 38) ?_ ?_ ?_
 rotate_left
 · intro w hS0; (try dsimp only at hS0); obtain ⟨kX, _⟩ := hS0; obtain ⟨m0, m1, m2, m3, m4, m5, m6, m7, m8, m9, m10, m11, m12, m13⟩ := kX.c14; have y1 := kX.lt;go_simp; (try with_reducible rfl)
 (try simp only [cq])
 refine tkY 3 (some 39) ?_ ?_ ?_
 rotate_left
 · intro w hS0; (try dsimp only at hS0); obtain ⟨kX, _⟩ := hS0; obtain ⟨m0, m1, m2, m3, m4, m5, m6, m7, m8, m9, m10, m11, m12, m13⟩ := kX.c14; have y1 := kX.lt;go_simp; (try with_reducible rfl)
 (try simp only [cq])
 refine tkY 5 (some 41) ?_ ?_ ?_
 rotate_left
 · intro w _; go_simp; (try with_reducible rfl)
 (try simp only [cq])
 refine tkY 6 (some 42) ?_ ?_ ?_
 rotate_left
 · intro w hS0; (try dsimp only at hS0); obtain ⟨kX, _⟩ := hS0; obtain ⟨m0, m1, m2, m3, m4, m5, m6, m7, m8, m9, m10, m11, m12, m13⟩ := kX.c14; have y1 := kX.lt;go_simp; (try with_reducible rfl)
 (try simp only [cq])
 refine tkY 7 (some 43) ?_ ?_ ?_
 rotate_left
 · intro w hS0; (try dsimp only at hS0); obtain ⟨kX, _⟩ := hS0; obtain ⟨m0, m1, m2, m3, m4, m5, m6, m7, m8, m9, m10, m11, m12, m13⟩ := kX.c14; have y1 := kX.lt;go_simp; (try with_reducible rfl)
 (try simp only [cq])
 refine tkY 9 (some 45) ?_ ?_ ?_
 rotate_left
 · intro w _; go_simp; (try with_reducible rfl)
 (try simp only [cq])
 refine tkY 10 (some 46) ?_ ?_ ?_
 rotate_left
 · intro w hS0; (try dsimp only at hS0); obtain ⟨kX, _⟩ := hS0; obtain ⟨m0, m1, m2, m3, m4, m5, m6, m7, m8, m9, m10, m11, m12, m13⟩ := kX.c14; have y1 := kX.lt;go_simp; (try with_reducible rfl)
 (try simp only [cq])
 refine tkY 11 (some 47) ?_ ?_ ?_
 rotate_left
 · intro w hS0; (try dsimp only at hS0); obtain ⟨kX, _⟩ := hS0; obtain ⟨m0, m1, m2, m3, m4, m5, m6, m7, m8, m9, m10, m11, m12, m13⟩ := kX.c14; have y1 := kX.lt;go_simp; (try with_reducible rfl)
 (try simp only [cq])
 refine tkY 13 (some 49) ?_ ?_ ?_
 rotate_left
 · intro w _; go_simp; (try with_reducible rfl)
 (try simp only [cq])
 refine tkY 14 (some 50) ?_ ?_ ?_
 rotate_left
 · intro w hS0; (try dsimp only at hS0); obtain ⟨kX, _⟩ := hS0; obtain ⟨m0, m1, m2, m3, m4, m5, m6, m7, m8, m9, m10, m11, m12, m13⟩ := kX.c14; have y1 := kX.lt;go_simp; (try with_reducible rfl)
 (try simp only [cq])
 refine tkY 15 (some 51) ?_ ?_ ?_
 rotate_left
 · intro w hS0; (try dsimp only at hS0); obtain ⟨kX, _⟩ := hS0; obtain ⟨m0, m1, m2, m3, m4, m5, m6, m7, m8, m9, m10, m11, m12, m13⟩ := kX.c14; have y1 := kX.lt;go_simp; (try with_reducible rfl)
 (try simp only [cq])
 refine wpAnyH_ready (rs := [4, 19]) (by kernel_rfl) (by simp) ?_
 refine arc (some 40) (fun K hK => ?_) ?_
 {
 go_simp
 (refine (inside_in p.s0 p.s1 bs _ hH.2.2.2.1 (by omega) (by omega) (by omega)).mono ?_; rintro e w' ⟨σ, rfl, σ0, σ1, hd⟩; (try replace kN := hd.blk kN (by omega)))
 refine hK.out _ _ ?_ ?_
 · (exact ⟨hd.blk hH.1 (by omega), hH.2.1.drawn hd (by omega), hd.row hH.2.2.1 (by omega), hd.seed, Drawn.below hH.2.2.2.2 hd zwbs⟩)
 (try clear hH); (try clear hd); (try clear hb)
 intro hH
 clear hK K
 (try simp only [cq])
 refine wpAnyH_ready (rs := [8, 19]) (by kernel_rfl) (by simp) ?_
 refine arc (some 44) (fun K hK => ?_) ?_
 {
 have zz := hH.2.2.2.1.choose_spec.lt
 go_simp
 (refine (kinside_in (bs + 1) ni _ I0 I1 (by have := HM.out.ni4; omega) (fun i hi => by have := HM.out.hi i hi; omega) bs (by omega) _ hH.2.2.2.1 hH.2.1.I).mono ?_; rintro e w' ⟨uT, xT, rfl, hT, rT, hd⟩; replace rT := ownsRow_base (b1 := bs + 1) rT (by omega); clear zz; obtain ⟨aT, cT, hvT, _, _, _⟩ := ints_of_row rT; subst hvT; (try replace kN := hd.blk kN (by omega)))
 refine hK.out _ _ ?_ ?_
 · (exact ⟨hd.blk hH.1 (by omega), hH.2.1.drawn hd (by omega), hd.row hH.2.2.1 (by omega), hd.seed, Drawn.below hH.2.2.2.2 hd zwbs⟩)
 (try clear hH); (try clear hd); (try clear hb)
 intro hH
 clear hK K
 (try simp only [cq])
 refine wpAnyH_ready (rs := [12, 19]) (by kernel_rfl) (by simp) ?_
 refine arc (some 48) (fun K hK => ?_) ?_
 {
 have zz := hH.2.2.2.1.choose_spec.lt
 go_simp
 (refine (kinside_in (bs + 1) nc _ C0 C1 (by have := HM.out.nc3; omega) (fun i hi => by have := HM.out.hc i hi; omega) bs (by omega) _ hH.2.2.2.1 hH.2.1.K).mono ?_; rintro e w' ⟨uc, xc, rfl, hc, rc, hd⟩; replace rc := ownsRow_base (b1 := bs + 1) rc (by omega); clear zz; obtain ⟨ac, cc, hvc, _, _, _⟩ := ints_of_row rc; subst hvc; replace rT := hd.row rT (by omega); (try replace kN := hd.blk kN (by omega)))
 refine hK.out _ _ ?_ ?_
 · (exact ⟨hd.blk hH.1 (by omega), hH.2.1.drawn hd (by omega), hd.row hH.2.2.1 (by omega), hd.seed, Drawn.below hH.2.2.2.2 hd zwbs⟩)
 (try clear hH); (try clear hd); (try clear hb)
 intro hH
 clear hK K
 (try simp only [cq])
 refine wpAnyH_ready (rs := [16, 19]) (by kernel_rfl) (by simp) ?_
 refine arc (some 52) (fun K hK => ?_) ?_
 {
 have zz := hH.2.2.2.1.choose_spec.lt
 go_simp
 (refine (kweights_any n _ L (by have := HM.out.n5; omega) _ (loads_of_row hH.2.1.L)).mono ?_; rintro e w' ⟨uV, rfl, rV, hb⟩; replace rV := ownsRow_base (b1 := bs + 1) rV (by omega); clear zz; replace rT := row_call rT hb; replace rc := row_call rc hb; (try replace kN := kN.call hb))
 refine hK.out _ _ ?_ ?_
 · exact ⟨hH.1.call hb, hH.2.1.call hb, row_call hH.2.2.1 hb, hH.2.2.2.1.imp (fun _ h => h.call hb), bwS hH.2.2.2.2 (Nat.le_refl _) hb⟩
 (try clear hH); (try clear hd); (try clear hb)
 intro hH
 clear hK K
 (try simp only [cq])
 refine wpAnyH_ready (rs := [17, 19]) (by kernel_rfl) (by simp) ?_
 refine arc (some 53) (fun K hK => ?_) ?_
 {
 have zz := hH.2.2.2.1.choose_spec.lt
 go_simp
 (refine (kinside_in (bs + 1) n _ (fun i => (L i).w0) (fun i => (L i).w1) (by have := HM.out.n5; omega) (fun i hi => ⟨Int.le_trans (by decide) (HM.out.hL i hi).w0, (HM.out.hL i hi).w01, Int.le_trans (HM.out.hL i hi).w1 (by decide)⟩) bs (by omega) _ hH.2.2.2.1 rV).mono ?_; rintro e w' ⟨uW, xW, rfl, hW, rW, hd⟩; replace rW := ownsRow_base (b1 := bs + 1) rW (by omega); clear zz; obtain ⟨aW, cW, hvW, _, _, _⟩ := ints_of_row rW; subst hvW; replace rT := hd.row rT (by omega); replace rc := hd.row rc (by omega); (try replace kN := hd.blk kN (by omega)); clear rV)
 refine hK.out _ _ ?_ ?_
 · (exact ⟨hd.blk hH.1 (by omega), hH.2.1.drawn hd (by omega), hd.row hH.2.2.1 (by omega), hd.seed, Drawn.below hH.2.2.2.2 hd zwbs⟩)
 (try clear hH); (try clear hd); (try clear hb)
 intro hH
 clear hK K
 (try simp only [cq])
 refine tkY 18 (some 54) ?_ ?_ ?_
 rotate_left
 · intro w _; go_simp; (try with_reducible rfl)
 (try simp only [cq])
 refine wpAnyH_ready (rs := [19]) (by kernel_rfl) (by simp) ?_
 refine arc1 (some 7) fun K hK => ?_
 have zz := hH.2.2.2.2.size
 have zz2 := hH.2.2.2.1.choose_spec.lt
 go_simp
 first | refine oA hK ?_ (fun hH hA => ?_) | refine oD hK ?_ (fun hH hA => ?_)
 · exact ⟨hH.1.alloc _, hH.2.1.alloc _, hH.2.2.1.alloc _, hH.2.2.2.1.imp (fun _ h => h.alloc _), bwA hH.2.2.2.2 (Nat.le_refl _) _⟩
 have kN := hA
 clear hA
 obtain ⟨bN, hbN⟩ : ∃ b, Blk.num kN = b := ⟨_, rfl⟩
 simp only [Blk.num] at hbN
 have zN : w.heap.size ≤ bN := by rw [← hbN]; exact zz
 have zNs : bs < bN := by rw [← hbN]; exact zz2
 rw [hbN] at kN ⊢
 clear hbN zz zz2
 (try replace rT := rT.alloc (.cells #[.int .i64 0, .slice none 0 0, .slice none 0 0, .slice none 0 0] 77))
 (try replace rc := rc.alloc (.cells #[.int .i64 0, .slice none 0 0, .slice none 0 0, .slice none 0 0] 77))
 (try replace rV := rV.alloc (.cells #[.int .i64 0, .slice none 0 0, .slice none 0 0, .slice none 0 0] 77))
 (try replace rW := rW.alloc (.cells #[.int .i64 0, .slice none 0 0, .slice none 0 0, .slice none 0 0] 77))
 clear hK K
 (try simp only [cq])
 refine wpAnyH_ready (rs := [20]) (by kernel_rfl) (by simp) ?_
 refine arc1 none fun K hK => ?_
 obtain ⟨q0, q1, q2, q3⟩ := kN.c4
 have f0 := kN.free 0
 have f1 := kN.free 1
 have f2 := kN.free 2
 have f3 := kN.free 3
 have zN2 := kN.lt
 have HS := Lib.hid (kN.set4 (.int .i64 σ) (.slice aT ni cT) (.slice ac nc cc) (.slice aW n cW))
 have HG := Lib.hid (And.intro (hH.1.other4 (blk_ne hH.1 kN (by decide)) (.int .i64 σ) (.slice aT ni cT) (.slice ac nc cc) (.slice aW n cW)) (And.intro (hH.2.1.put4 kN (.int .i64 σ) (.slice aT ni cT) (.slice ac nc cc) (.slice aW n cW)) (And.intro (row_put4 hH.2.2.1 kN (by decide) (.int .i64 σ) (.slice aT ni cT) (.slice ac nc cc) (.slice aW n cW)) (And.intro (hH.2.2.2.1.put4 kN (.int .i64 σ) (.slice aT ni cT) (.slice ac nc cc) (.slice aW n cW)) (below_set4 hH.2.2.2.2 zN (.int .i64 σ) (.slice aT ni cT) (.slice ac nc cc) (.slice aW n cW))))))
 have GT := Lib.hid (ints_of_row (row_put4 rT kN (by decide) (.int .i64 σ) (.slice aT ni cT) (.slice ac nc cc) (.slice aW n cW)))
 have Gc := Lib.hid (ints_of_row (row_put4 rc kN (by decide) (.int .i64 σ) (.slice aT ni cT) (.slice ac nc cc) (.slice aW n cW)))
 have GW := Lib.hid (ints_of_row (row_put4 rW kN (by decide) (.int .i64 σ) (.slice aT ni cT) (.slice ac nc cc) (.slice aW n cW)))
 go_simp
 refine hK.out _ _ ?_ ?_
 · exact HG.out
 (try clear hH); (try clear hd); (try clear hb)
 intro hH
 clear hK K
 (try simp only [cq])
 refine wpAnyH_done (by kernel_rfl) ?_ _
 (try dsimp only [Act.put])
 (try simp only [cq])
 clear q0 q1 q2 q3 f0 f1 f2 f3 zN2 HG kN rT rc rW
 go_wp2_with fail
 go_meet
 exact ⟨bN, _, _, _, ⟨σ, xT, xc, xW⟩, rfl, HS.out, GT.out, Gc.out, GW.out, ⟨σ0, σ1⟩, hT, hc, hW, hH⟩
 }
 refine arc (some 7) (fun K hK => ?_) ?_
 {
 have zz := hH.2.2.2.2.size
 have zz2 := hH.2.2.2.1.choose_spec.lt
 go_simp
 first | refine oA hK ?_ (fun hH hA => ?_) | refine oD hK ?_ (fun hH hA => ?_)
 · exact ⟨hH.1.alloc _, hH.2.1.alloc _, hH.2.2.1.alloc _, hH.2.2.2.1.imp (fun _ h => h.alloc _), bwA hH.2.2.2.2 (Nat.le_refl _) _⟩
 have kN := hA
 clear hA
 obtain ⟨bN, hbN⟩ : ∃ b, Blk.num kN = b := ⟨_, rfl⟩
 simp only [Blk.num] at hbN
 have zN : w.heap.size ≤ bN := by rw [← hbN]; exact zz
 have zNs : bs < bN := by rw [← hbN]; exact zz2
 rw [hbN] at kN ⊢
 clear hbN zz zz2
 (try replace rT := rT.alloc (.cells #[.int .i64 0, .slice none 0 0, .slice none 0 0, .slice none 0 0] 77))
 (try replace rc := rc.alloc (.cells #[.int .i64 0, .slice none 0 0, .slice none 0 0, .slice none 0 0] 77))
 (try replace rV := rV.alloc (.cells #[.int .i64 0, .slice none 0 0, .slice none 0 0, .slice none 0 0] 77))
 (try replace rW := rW.alloc (.cells #[.int .i64 0, .slice none 0 0, .slice none 0 0, .slice none 0 0] 77))
 clear hK K
 (try simp only [cq])
 refine wpAnyH_ready (rs := [17]) (by kernel_rfl) (by simp) ?_
 refine arc1 (some 53) fun K hK => ?_
 have zz := hH.2.2.2.1.choose_spec.lt
 go_simp
 (refine (kinside_in (bs + 1) n _ (fun i => (L i).w0) (fun i => (L i).w1) (by have := HM.out.n5; omega) (fun i hi => ⟨Int.le_trans (by decide) (HM.out.hL i hi).w0, (HM.out.hL i hi).w01, Int.le_trans (HM.out.hL i hi).w1 (by decide)⟩) bs (by omega) _ hH.2.2.2.1 rV).mono ?_; rintro e w' ⟨uW, xW, rfl, hW, rW, hd⟩; replace rW := ownsRow_base (b1 := bs + 1) rW (by omega); clear zz; obtain ⟨aW, cW, hvW, _, _, _⟩ := ints_of_row rW; subst hvW; replace rT := hd.row rT (by omega); replace rc := hd.row rc (by omega); (try replace kN := hd.blk kN (by omega)); clear rV)
 refine hK.out _ _ ?_ ?_
 · (exact ⟨hd.blk hH.1 (by omega), hH.2.1.drawn hd (by omega), hd.row hH.2.2.1 (by omega), hd.seed, Drawn.below hH.2.2.2.2 hd zwbs⟩)
 (try clear hH); (try clear hd); (try clear hb)
 intro hH
 clear hK K
 (try simp only [cq])
 refine tkY 18 (some 54) ?_ ?_ ?_
 rotate_left
 · intro w _; go_simp; (try with_reducible rfl)
 (try simp only [cq])
 refine wpAnyH_ready (rs := [20]) (by kernel_rfl) (by simp) ?_
 refine arc1 none fun K hK => ?_
 obtain ⟨q0, q1, q2, q3⟩ := kN.c4
 have f0 := kN.free 0
 have f1 := kN.free 1
 have f2 := kN.free 2
 have f3 := kN.free 3
 have zN2 := kN.lt
 have HS := Lib.hid (kN.set4 (.int .i64 σ) (.slice aT ni cT) (.slice ac nc cc) (.slice aW n cW))
 have HG := Lib.hid (And.intro (hH.1.other4 (blk_ne hH.1 kN (by decide)) (.int .i64 σ) (.slice aT ni cT) (.slice ac nc cc) (.slice aW n cW)) (And.intro (hH.2.1.put4 kN (.int .i64 σ) (.slice aT ni cT) (.slice ac nc cc) (.slice aW n cW)) (And.intro (row_put4 hH.2.2.1 kN (by decide) (.int .i64 σ) (.slice aT ni cT) (.slice ac nc cc) (.slice aW n cW)) (And.intro (hH.2.2.2.1.put4 kN (.int .i64 σ) (.slice aT ni cT) (.slice ac nc cc) (.slice aW n cW)) (below_set4 hH.2.2.2.2 zN (.int .i64 σ) (.slice aT ni cT) (.slice ac nc cc) (.slice aW n cW))))))
 have GT := Lib.hid (ints_of_row (row_put4 rT kN (by decide) (.int .i64 σ) (.slice aT ni cT) (.slice ac nc cc) (.slice aW n cW)))
 have Gc := Lib.hid (ints_of_row (row_put4 rc kN (by decide) (.int .i64 σ) (.slice aT ni cT) (.slice ac nc cc) (.slice aW n cW)))
 have GW := Lib.hid (ints_of_row (row_put4 rW kN (by decide) (.int .i64 σ) (.slice aT ni cT) (.slice ac nc cc) (.slice aW n cW)))
 go_simp
 refine hK.out _ _ ?_ ?_
 · exact HG.out
 (try clear hH); (try clear hd); (try clear hb)
 intro hH
 clear hK K
 (try simp only [cq])
 refine wpAnyH_done (by kernel_rfl) ?_ _
 (try dsimp only [Act.put])
 (try simp only [cq])
 clear q0 q1 q2 q3 f0 f1 f2 f3 zN2 HG kN rT rc rW
 go_wp2_with fail
 go_meet
 exact ⟨bN, _, _, _, ⟨σ, xT, xc, xW⟩, rfl, HS.out, GT.out, Gc.out, GW.out, ⟨σ0, σ1⟩, hT, hc, hW, hH⟩
 }
 exact AllReadyH.nil
 }
 refine arc (some 7) (fun K hK => ?_) ?_
 {
 have zz := hH.2.2.2.2.size
 have zz2 := hH.2.2.2.1.choose_spec.lt
 go_simp
 first | refine oA hK ?_ (fun hH hA => ?_) | refine oD hK ?_ (fun hH hA => ?_)
 · exact ⟨hH.1.alloc _, hH.2.1.alloc _, hH.2.2.1.alloc _, hH.2.2.2.1.imp (fun _ h => h.alloc _), bwA hH.2.2.2.2 (Nat.le_refl _) _⟩
 have kN := hA
 clear hA
 obtain ⟨bN, hbN⟩ : ∃ b, Blk.num kN = b := ⟨_, rfl⟩
 simp only [Blk.num] at hbN
 have zN : w.heap.size ≤ bN := by rw [← hbN]; exact zz
 have zNs : bs < bN := by rw [← hbN]; exact zz2
 rw [hbN] at kN ⊢
 clear hbN zz zz2
 (try replace rT := rT.alloc (.cells #[.int .i64 0, .slice none 0 0, .slice none 0 0, .slice none 0 0] 77))
 (try replace rc := rc.alloc (.cells #[.int .i64 0, .slice none 0 0, .slice none 0 0, .slice none 0 0] 77))
 (try replace rV := rV.alloc (.cells #[.int .i64 0, .slice none 0 0, .slice none 0 0, .slice none 0 0] 77))
 (try replace rW := rW.alloc (.cells #[.int .i64 0, .slice none 0 0, .slice none 0 0, .slice none 0 0] 77))
 clear hK K
 (try simp only [cq])
 refine wpAnyH_ready (rs := [16]) (by kernel_rfl) (by simp) ?_
 refine arc1 (some 52) fun K hK => ?_
 have zz := hH.2.2.2.1.choose_spec.lt
 go_simp
 (refine (kweights_any n _ L (by have := HM.out.n5; omega) _ (loads_of_row hH.2.1.L)).mono ?_; rintro e w' ⟨uV, rfl, rV, hb⟩; replace rV := ownsRow_base (b1 := bs + 1) rV (by omega); clear zz; replace rT := row_call rT hb; replace rc := row_call rc hb; (try replace kN := kN.call hb))
 refine hK.out _ _ ?_ ?_
 · exact ⟨hH.1.call hb, hH.2.1.call hb, row_call hH.2.2.1 hb, hH.2.2.2.1.imp (fun _ h => h.call hb), bwS hH.2.2.2.2 (Nat.le_refl _) hb⟩
 (try clear hH); (try clear hd); (try clear hb)
 intro hH
 clear hK K
 (try simp only [cq])
 refine wpAnyH_ready (rs := [17]) (by kernel_rfl) (by simp) ?_
 refine arc1 (some 53) fun K hK => ?_
 have zz := hH.2.2.2.1.choose_spec.lt
 go_simp
 (refine (kinside_in (bs + 1) n _ (fun i => (L i).w0) (fun i => (L i).w1) (by have := HM.out.n5; omega) (fun i hi => ⟨Int.le_trans (by decide) (HM.out.hL i hi).w0, (HM.out.hL i hi).w01, Int.le_trans (HM.out.hL i hi).w1 (by decide)⟩) bs (by omega) _ hH.2.2.2.1 rV).mono ?_; rintro e w' ⟨uW, xW, rfl, hW, rW, hd⟩; replace rW := ownsRow_base (b1 := bs + 1) rW (by omega); clear zz; obtain ⟨aW, cW, hvW, _, _, _⟩ := ints_of_row rW; subst hvW; replace rT := hd.row rT (by omega); replace rc := hd.row rc (by omega); (try replace kN := hd.blk kN (by omega)); clear rV)
 refine hK.out _ _ ?_ ?_
 · (exact ⟨hd.blk hH.1 (by omega), hH.2.1.drawn hd (by omega), hd.row hH.2.2.1 (by omega), hd.seed, Drawn.below hH.2.2.2.2 hd zwbs⟩)
 (try clear hH); (try clear hd); (try clear hb)
 intro hH
 clear hK K
 (try simp only [cq])
 refine tkY 18 (some 54) ?_ ?_ ?_
 rotate_left
 · intro w _; go_simp; (try with_reducible rfl)
 (try simp only [cq])
 refine wpAnyH_ready (rs := [20]) (by kernel_rfl) (by simp) ?_
 refine arc1 none fun K hK => ?_
 obtain ⟨q0, q1, q2, q3⟩ := kN.c4
 have f0 := kN.free 0
 have f1 := kN.free 1
 have f2 := kN.free 2
 have f3 := kN.free 3
 have zN2 := kN.lt
 have HS := Lib.hid (kN.set4 (.int .i64 σ) (.slice aT ni cT) (.slice ac nc cc) (.slice aW n cW))
 have HG := Lib.hid (And.intro (hH.1.other4 (blk_ne hH.1 kN (by decide)) (.int .i64 σ) (.slice aT ni cT) (.slice ac nc cc) (.slice aW n cW)) (And.intro (hH.2.1.put4 kN (.int .i64 σ) (.slice aT ni cT) (.slice ac nc cc) (.slice aW n cW)) (And.intro (row_put4 hH.2.2.1 kN (by decide) (.int .i64 σ) (.slice aT ni cT) (.slice ac nc cc) (.slice aW n cW)) (And.intro (hH.2.2.2.1.put4 kN (.int .i64 σ) (.slice aT ni cT) (.slice ac nc cc) (.slice aW n cW)) (below_set4 hH.2.2.2.2 zN (.int .i64 σ) (.slice aT ni cT) (.slice ac nc cc) (.slice aW n cW))))))
 have GT := Lib.hid (ints_of_row (row_put4 rT kN (by decide) (.int .i64 σ) (.slice aT ni cT) (.slice ac nc cc) (.slice aW n cW)))
 have Gc := Lib.hid (ints_of_row (row_put4 rc kN (by decide) (.int .i64 σ) (.slice aT ni cT) (.slice ac nc cc) (.slice aW n cW)))
 have GW := Lib.hid (ints_of_row (row_put4 rW kN (by decide) (.int .i64 σ) (.slice aT ni cT) (.slice ac nc cc) (.slice aW n cW)))
 go_simp
 refine hK.out _ _ ?_ ?_
 · exact HG.out
 (try clear hH); (try clear hd); (try clear hb)
 intro hH
 clear hK K
 (try simp only [cq])
 refine wpAnyH_done (by kernel_rfl) ?_ _
 (try dsimp only [Act.put])
 (try simp only [cq])
 clear q0 q1 q2 q3 f0 f1 f2 f3 zN2 HG kN rT rc rW
 go_wp2_with fail
 go_meet
 exact ⟨bN, _, _, _, ⟨σ, xT, xc, xW⟩, rfl, HS.out, GT.out, Gc.out, GW.out, ⟨σ0, σ1⟩, hT, hc, hW, hH⟩
 }
 exact AllReadyH.nil
 }
 refine arc (some 7) (fun K hK => ?_) ?_
 {
 have zz := hH.2.2.2.2.size
 have zz2 := hH.2.2.2.1.choose_spec.lt
 go_simp
 first | refine oA hK ?_ (fun hH hA => ?_) | refine oD hK ?_ (fun hH hA => ?_)
 · exact ⟨hH.1.alloc _, hH.2.1.alloc _, hH.2.2.1.alloc _, hH.2.2.2.1.imp (fun _ h => h.alloc _), bwA hH.2.2.2.2 (Nat.le_refl _) _⟩
 have kN := hA
 clear hA
 obtain ⟨bN, hbN⟩ : ∃ b, Blk.num kN = b := ⟨_, rfl⟩
 simp only [Blk.num] at hbN
 have zN : w.heap.size ≤ bN := by rw [← hbN]; exact zz
 have zNs : bs < bN := by rw [← hbN]; exact zz2
 rw [hbN] at kN ⊢
 clear hbN zz zz2
 (try replace rT := rT.alloc (.cells #[.int .i64 0, .slice none 0 0, .slice none 0 0, .slice none 0 0] 77))
 (try replace rc := rc.alloc (.cells #[.int .i64 0, .slice none 0 0, .slice none 0 0, .slice none 0 0] 77))
 (try replace rV := rV.alloc (.cells #[.int .i64 0, .slice none 0 0, .slice none 0 0, .slice none 0 0] 77))
 (try replace rW := rW.alloc (.cells #[.int .i64 0, .slice none 0 0, .slice none 0 0, .slice none 0 0] 77))
 clear hK K
 (try simp only [cq])
 refine wpAnyH_ready (rs := [12]) (by kernel_rfl) (by simp) ?_
 refine arc1 (some 48) fun K hK => ?_
 have zz := hH.2.2.2.1.choose_spec.lt
 go_simp
 (refine (kinside_in (bs + 1) nc _ C0 C1 (by have := HM.out.nc3; omega) (fun i hi => by have := HM.out.hc i hi; omega) bs (by omega) _ hH.2.2.2.1 hH.2.1.K).mono ?_; rintro e w' ⟨uc, xc, rfl, hc, rc, hd⟩; replace rc := ownsRow_base (b1 := bs + 1) rc (by omega); clear zz; obtain ⟨ac, cc, hvc, _, _, _⟩ := ints_of_row rc; subst hvc; replace rT := hd.row rT (by omega); (try replace kN := hd.blk kN (by omega)))
 refine hK.out _ _ ?_ ?_
 · (exact ⟨hd.blk hH.1 (by omega), hH.2.1.drawn hd (by omega), hd.row hH.2.2.1 (by omega), hd.seed, Drawn.below hH.2.2.2.2 hd zwbs⟩)
 (try clear hH); (try clear hd); (try clear hb)
 intro hH
 clear hK K
 (try simp only [cq])
 refine wpAnyH_ready (rs := [16]) (by kernel_rfl) (by simp) ?_
 refine arc1 (some 52) fun K hK => ?_
 have zz := hH.2.2.2.1.choose_spec.lt
 go_simp
 (refine (kweights_any n _ L (by have := HM.out.n5; omega) _ (loads_of_row hH.2.1.L)).mono ?_; rintro e w' ⟨uV, rfl, rV, hb⟩; replace rV := ownsRow_base (b1 := bs + 1) rV (by omega); clear zz; replace rT := row_call rT hb; replace rc := row_call rc hb; (try replace kN := kN.call hb))
 refine hK.out _ _ ?_ ?_
 · exact ⟨hH.1.call hb, hH.2.1.call hb, row_call hH.2.2.1 hb, hH.2.2.2.1.imp (fun _ h => h.call hb), bwS hH.2.2.2.2 (Nat.le_refl _) hb⟩
 (try clear hH); (try clear hd); (try clear hb)
 intro hH
 clear hK K
 (try simp only [cq])
 refine wpAnyH_ready (rs := [17]) (by kernel_rfl) (by simp) ?_
 refine arc1 (some 53) fun K hK => ?_
 have zz := hH.2.2.2.1.choose_spec.lt
 go_simp
 (refine (kinside_in (bs + 1) n _ (fun i => (L i).w0) (fun i => (L i).w1) (by have := HM.out.n5; omega) (fun i hi => ⟨Int.le_trans (by decide) (HM.out.hL i hi).w0, (HM.out.hL i hi).w01, Int.le_trans (HM.out.hL i hi).w1 (by decide)⟩) bs (by omega) _ hH.2.2.2.1 rV).mono ?_; rintro e w' ⟨uW, xW, rfl, hW, rW, hd⟩; replace rW := ownsRow_base (b1 := bs + 1) rW (by omega); clear zz; obtain ⟨aW, cW, hvW, _, _, _⟩ := ints_of_row rW; subst hvW; replace rT := hd.row rT (by omega); replace rc := hd.row rc (by omega); (try replace kN := hd.blk kN (by omega)); clear rV)
 refine hK.out _ _ ?_ ?_
 · (exact ⟨hd.blk hH.1 (by omega), hH.2.1.drawn hd (by omega), hd.row hH.2.2.1 (by omega), hd.seed, Drawn.below hH.2.2.2.2 hd zwbs⟩)
 (try clear hH); (try clear hd); (try clear hb)
 intro hH
 clear hK K
 (try simp only [cq])
 refine tkY 18 (some 54) ?_ ?_ ?_
 rotate_left
 · intro w _; go_simp; (try with_reducible rfl)
 (try simp only [cq])
 refine wpAnyH_ready (rs := [20]) (by kernel_rfl) (by simp) ?_
 refine arc1 none fun K hK => ?_
 obtain ⟨q0, q1, q2, q3⟩ := kN.c4
 have f0 := kN.free 0
 have f1 := kN.free 1
 have f2 := kN.free 2
 have f3 := kN.free 3
 have zN2 := kN.lt
 have HS := Lib.hid (kN.set4 (.int .i64 σ) (.slice aT ni cT) (.slice ac nc cc) (.slice aW n cW))
 have HG := Lib.hid (And.intro (hH.1.other4 (blk_ne hH.1 kN (by decide)) (.int .i64 σ) (.slice aT ni cT) (.slice ac nc cc) (.slice aW n cW)) (And.intro (hH.2.1.put4 kN (.int .i64 σ) (.slice aT ni cT) (.slice ac nc cc) (.slice aW n cW)) (And.intro (row_put4 hH.2.2.1 kN (by decide) (.int .i64 σ) (.slice aT ni cT) (.slice ac nc cc) (.slice aW n cW)) (And.intro (hH.2.2.2.1.put4 kN (.int .i64 σ) (.slice aT ni cT) (.slice ac nc cc) (.slice aW n cW)) (below_set4 hH.2.2.2.2 zN (.int .i64 σ) (.slice aT ni cT) (.slice ac nc cc) (.slice aW n cW))))))
 have GT := Lib.hid (ints_of_row (row_put4 rT kN (by decide) (.int .i64 σ) (.slice aT ni cT) (.slice ac nc cc) (.slice aW n cW)))
 have Gc := Lib.hid (ints_of_row (row_put4 rc kN (by decide) (.int .i64 σ) (.slice aT ni cT) (.slice ac nc cc) (.slice aW n cW)))
 have GW := Lib.hid (ints_of_row (row_put4 rW kN (by decide) (.int .i64 σ) (.slice aT ni cT) (.slice ac nc cc) (.slice aW n cW)))
 go_simp
 refine hK.out _ _ ?_ ?_
 · exact HG.out
 (try clear hH); (try clear hd); (try clear hb)
 intro hH
 clear hK K
 (try simp only [cq])
 refine wpAnyH_done (by kernel_rfl) ?_ _
 (try dsimp only [Act.put])
 (try simp only [cq])
 clear q0 q1 q2 q3 f0 f1 f2 f3 zN2 HG kN rT rc rW
 go_wp2_with fail
 go_meet
 exact ⟨bN, _, _, _, ⟨σ, xT, xc, xW⟩, rfl, HS.out, GT.out, Gc.out, GW.out, ⟨σ0, σ1⟩, hT, hc, hW, hH⟩
 }
 exact AllReadyH.nil
 }
 refine arc (some 7) (fun K hK => ?_) ?_
 {
 have zz := hH.2.2.2.2.size
 have zz2 := hH.2.2.2.1.choose_spec.lt
 go_simp
 first | refine oA hK ?_ (fun hH hA => ?_) | refine oD hK ?_ (fun hH hA => ?_)
 · exact ⟨hH.1.alloc _, hH.2.1.alloc _, hH.2.2.1.alloc _, hH.2.2.2.1.imp (fun _ h => h.alloc _), bwA hH.2.2.2.2 (Nat.le_refl _) _⟩
 have kN := hA
 clear hA
 obtain ⟨bN, hbN⟩ : ∃ b, Blk.num kN = b := ⟨_, rfl⟩
 simp only [Blk.num] at hbN
 have zN : w.heap.size ≤ bN := by rw [← hbN]; exact zz
 have zNs : bs < bN := by rw [← hbN]; exact zz2
 rw [hbN] at kN ⊢
 clear hbN zz zz2
 (try replace rT := rT.alloc (.cells #[.int .i64 0, .slice none 0 0, .slice none 0 0, .slice none 0 0] 77))
 (try replace rc := rc.alloc (.cells #[.int .i64 0, .slice none 0 0, .slice none 0 0, .slice none 0 0] 77))
 (try replace rV := rV.alloc (.cells #[.int .i64 0, .slice none 0 0, .slice none 0 0, .slice none 0 0] 77))
 (try replace rW := rW.alloc (.cells #[.int .i64 0, .slice none 0 0, .slice none 0 0, .slice none 0 0] 77))
 clear hK K
 (try simp only [cq])
 refine wpAnyH_ready (rs := [8]) (by kernel_rfl) (by simp) ?_
 refine arc1 (some 44) fun K hK => ?_
 have zz := hH.2.2.2.1.choose_spec.lt
 go_simp
 (refine (kinside_in (bs + 1) ni _ I0 I1 (by have := HM.out.ni4; omega) (fun i hi => by have := HM.out.hi i hi; omega) bs (by omega) _ hH.2.2.2.1 hH.2.1.I).mono ?_; rintro e w' ⟨uT, xT, rfl, hT, rT, hd⟩; replace rT := ownsRow_base (b1 := bs + 1) rT (by omega); clear zz; obtain ⟨aT, cT, hvT, _, _, _⟩ := ints_of_row rT; subst hvT; (try replace kN := hd.blk kN (by omega)))
 refine hK.out _ _ ?_ ?_
 · (exact ⟨hd.blk hH.1 (by omega), hH.2.1.drawn hd (by omega), hd.row hH.2.2.1 (by omega), hd.seed, Drawn.below hH.2.2.2.2 hd zwbs⟩)
 (try clear hH); (try clear hd); (try clear hb)
 intro hH
 clear hK K
 (try simp only [cq])
 refine wpAnyH_ready (rs := [12]) (by kernel_rfl) (by simp) ?_
 refine arc1 (some 48) fun K hK => ?_
 have zz := hH.2.2.2.1.choose_spec.lt
 go_simp
 (refine (kinside_in (bs + 1) nc _ C0 C1 (by have := HM.out.nc3; omega) (fun i hi => by have := HM.out.hc i hi; omega) bs (by omega) _ hH.2.2.2.1 hH.2.1.K).mono ?_; rintro e w' ⟨uc, xc, rfl, hc, rc, hd⟩; replace rc := ownsRow_base (b1 := bs + 1) rc (by omega); clear zz; obtain ⟨ac, cc, hvc, _, _, _⟩ := ints_of_row rc; subst hvc; replace rT := hd.row rT (by omega); (try replace kN := hd.blk kN (by omega)))
 refine hK.out _ _ ?_ ?_
 · (exact ⟨hd.blk hH.1 (by omega), hH.2.1.drawn hd (by omega), hd.row hH.2.2.1 (by omega), hd.seed, Drawn.below hH.2.2.2.2 hd zwbs⟩)
 (try clear hH); (try clear hd); (try clear hb)
 intro hH
 clear hK K
 (try simp only [cq])
 refine wpAnyH_ready (rs := [16]) (by kernel_rfl) (by simp) ?_
 refine arc1 (some 52) fun K hK => ?_
 have zz := hH.2.2.2.1.choose_spec.lt
 go_simp
 (refine (kweights_any n _ L (by have := HM.out.n5; omega) _ (loads_of_row hH.2.1.L)).mono ?_; rintro e w' ⟨uV, rfl, rV, hb⟩; replace rV := ownsRow_base (b1 := bs + 1) rV (by omega); clear zz; replace rT := row_call rT hb; replace rc := row_call rc hb; (try replace kN := kN.call hb))
 refine hK.out _ _ ?_ ?_
 · exact ⟨hH.1.call hb, hH.2.1.call hb, row_call hH.2.2.1 hb, hH.2.2.2.1.imp (fun _ h => h.call hb), bwS hH.2.2.2.2 (Nat.le_refl _) hb⟩
 (try clear hH); (try clear hd); (try clear hb)
 intro hH
 clear hK K
 (try simp only [cq])
 refine wpAnyH_ready (rs := [17]) (by kernel_rfl) (by simp) ?_
 refine arc1 (some 53) fun K hK => ?_
 have zz := hH.2.2.2.1.choose_spec.lt
 go_simp
 (refine (kinside_in (bs + 1) n _ (fun i => (L i).w0) (fun i => (L i).w1) (by have := HM.out.n5; omega) (fun i hi => ⟨Int.le_trans (by decide) (HM.out.hL i hi).w0, (HM.out.hL i hi).w01, Int.le_trans (HM.out.hL i hi).w1 (by decide)⟩) bs (by omega) _ hH.2.2.2.1 rV).mono ?_; rintro e w' ⟨uW, xW, rfl, hW, rW, hd⟩; replace rW := ownsRow_base (b1 := bs + 1) rW (by omega); clear zz; obtain ⟨aW, cW, hvW, _, _, _⟩ := ints_of_row rW; subst hvW; replace rT := hd.row rT (by omega); replace rc := hd.row rc (by omega); (try replace kN := hd.blk kN (by omega)); clear rV)
 refine hK.out _ _ ?_ ?_
 · (exact ⟨hd.blk hH.1 (by omega), hH.2.1.drawn hd (by omega), hd.row hH.2.2.1 (by omega), hd.seed, Drawn.below hH.2.2.2.2 hd zwbs⟩)
 (try clear hH); (try clear hd); (try clear hb)
 intro hH
 clear hK K
 (try simp only [cq])
 refine tkY 18 (some 54) ?_ ?_ ?_
 rotate_left
 · intro w _; go_simp; (try with_reducible rfl)
 (try simp only [cq])
 refine wpAnyH_ready (rs := [20]) (by kernel_rfl) (by simp) ?_
 refine arc1 none fun K hK => ?_
 obtain ⟨q0, q1, q2, q3⟩ := kN.c4
 have f0 := kN.free 0
 have f1 := kN.free 1
 have f2 := kN.free 2
 have f3 := kN.free 3
 have zN2 := kN.lt
 have HS := Lib.hid (kN.set4 (.int .i64 σ) (.slice aT ni cT) (.slice ac nc cc) (.slice aW n cW))
 have HG := Lib.hid (And.intro (hH.1.other4 (blk_ne hH.1 kN (by decide)) (.int .i64 σ) (.slice aT ni cT) (.slice ac nc cc) (.slice aW n cW)) (And.intro (hH.2.1.put4 kN (.int .i64 σ) (.slice aT ni cT) (.slice ac nc cc) (.slice aW n cW)) (And.intro (row_put4 hH.2.2.1 kN (by decide) (.int .i64 σ) (.slice aT ni cT) (.slice ac nc cc) (.slice aW n cW)) (And.intro (hH.2.2.2.1.put4 kN (.int .i64 σ) (.slice aT ni cT) (.slice ac nc cc) (.slice aW n cW)) (below_set4 hH.2.2.2.2 zN (.int .i64 σ) (.slice aT ni cT) (.slice ac nc cc) (.slice aW n cW))))))
 have GT := Lib.hid (ints_of_row (row_put4 rT kN (by decide) (.int .i64 σ) (.slice aT ni cT) (.slice ac nc cc) (.slice aW n cW)))
 have Gc := Lib.hid (ints_of_row (row_put4 rc kN (by decide) (.int .i64 σ) (.slice aT ni cT) (.slice ac nc cc) (.slice aW n cW)))
 have GW := Lib.hid (ints_of_row (row_put4 rW kN (by decide) (.int .i64 σ) (.slice aT ni cT) (.slice ac nc cc) (.slice aW n cW)))
 go_simp
 refine hK.out _ _ ?_ ?_
 · exact HG.out
 (try clear hH); (try clear hd); (try clear hb)
 intro hH
 clear hK K
 (try simp only [cq])
 refine wpAnyH_done (by kernel_rfl) ?_ _
 (try dsimp only [Act.put])
 (try simp only [cq])
 clear q0 q1 q2 q3 f0 f1 f2 f3 zN2 HG kN rT rc rW
 go_wp2_with fail
 go_meet
 exact ⟨bN, _, _, _, ⟨σ, xT, xc, xW⟩, rfl, HS.out, GT.out, Gc.out, GW.out, ⟨σ0, σ1⟩, hT, hc, hW, hH⟩
 }
 exact AllReadyH.nil
 }
 refine arc (some 7) (fun K hK => ?_) ?_
 {
 have zz := hH.2.2.2.2.size
 have zz2 := hH.2.2.2.1.choose_spec.lt
 go_simp
 first | refine oA hK ?_ (fun hH hA => ?_) | refine oD hK ?_ (fun hH hA => ?_)
 · exact ⟨hH.1.alloc _, hH.2.1.alloc _, hH.2.2.1.alloc _, hH.2.2.2.1.imp (fun _ h => h.alloc _), bwA hH.2.2.2.2 (Nat.le_refl _) _⟩
 have kN := hA
 clear hA
 obtain ⟨bN, hbN⟩ : ∃ b, Blk.num kN = b := ⟨_, rfl⟩
 simp only [Blk.num] at hbN
 have zN : w.heap.size ≤ bN := by rw [← hbN]; exact zz
 have zNs : bs < bN := by rw [← hbN]; exact zz2
 rw [hbN] at kN ⊢
 clear hbN zz zz2
 (try replace rT := rT.alloc (.cells #[.int .i64 0, .slice none 0 0, .slice none 0 0, .slice none 0 0] 77))
 (try replace rc := rc.alloc (.cells #[.int .i64 0, .slice none 0 0, .slice none 0 0, .slice none 0 0] 77))
 (try replace rV := rV.alloc (.cells #[.int .i64 0, .slice none 0 0, .slice none 0 0, .slice none 0 0] 77))
 (try replace rW := rW.alloc (.cells #[.int .i64 0, .slice none 0 0, .slice none 0 0, .slice none 0 0] 77))
 clear hK K
 (try simp only [cq])
 refine wpAnyH_ready (rs := [4]) (by kernel_rfl) (by simp) ?_
 refine arc1 (some 40) fun K hK => ?_
 go_simp
 (refine (inside_in p.s0 p.s1 bs _ hH.2.2.2.1 (by omega) (by omega) (by omega)).mono ?_; rintro e w' ⟨σ, rfl, σ0, σ1, hd⟩; (try replace kN := hd.blk kN (by omega)))
 refine hK.out _ _ ?_ ?_
 · (exact ⟨hd.blk hH.1 (by omega), hH.2.1.drawn hd (by omega), hd.row hH.2.2.1 (by omega), hd.seed, Drawn.below hH.2.2.2.2 hd zwbs⟩)
 (try clear hH); (try clear hd); (try clear hb)
 intro hH
 clear hK K
 (try simp only [cq])
 refine wpAnyH_ready (rs := [8]) (by kernel_rfl) (by simp) ?_
 refine arc1 (some 44) fun K hK => ?_
 have zz := hH.2.2.2.1.choose_spec.lt
 go_simp
 (refine (kinside_in (bs + 1) ni _ I0 I1 (by have := HM.out.ni4; omega) (fun i hi => by have := HM.out.hi i hi; omega) bs (by omega) _ hH.2.2.2.1 hH.2.1.I).mono ?_; rintro e w' ⟨uT, xT, rfl, hT, rT, hd⟩; replace rT := ownsRow_base (b1 := bs + 1) rT (by omega); clear zz; obtain ⟨aT, cT, hvT, _, _, _⟩ := ints_of_row rT; subst hvT; (try replace kN := hd.blk kN (by omega)))
 refine hK.out _ _ ?_ ?_
 · (exact ⟨hd.blk hH.1 (by omega), hH.2.1.drawn hd (by omega), hd.row hH.2.2.1 (by omega), hd.seed, Drawn.below hH.2.2.2.2 hd zwbs⟩)
 (try clear hH); (try clear hd); (try clear hb)
 intro hH
 clear hK K
 (try simp only [cq])
 refine wpAnyH_ready (rs := [12]) (by kernel_rfl) (by simp) ?_
 refine arc1 (some 48) fun K hK => ?_
 have zz := hH.2.2.2.1.choose_spec.lt
 go_simp
 (refine (kinside_in (bs + 1) nc _ C0 C1 (by have := HM.out.nc3; omega) (fun i hi => by have := HM.out.hc i hi; omega) bs (by omega) _ hH.2.2.2.1 hH.2.1.K).mono ?_; rintro e w' ⟨uc, xc, rfl, hc, rc, hd⟩; replace rc := ownsRow_base (b1 := bs + 1) rc (by omega); clear zz; obtain ⟨ac, cc, hvc, _, _, _⟩ := ints_of_row rc; subst hvc; replace rT := hd.row rT (by omega); (try replace kN := hd.blk kN (by omega)))
 refine hK.out _ _ ?_ ?_
 · (exact ⟨hd.blk hH.1 (by omega), hH.2.1.drawn hd (by omega), hd.row hH.2.2.1 (by omega), hd.seed, Drawn.below hH.2.2.2.2 hd zwbs⟩)
 (try clear hH); (try clear hd); (try clear hb)
 intro hH
 clear hK K
 (try simp only [cq])
 refine wpAnyH_ready (rs := [16]) (by kernel_rfl) (by simp) ?_
 refine arc1 (some 52) fun K hK => ?_
 have zz := hH.2.2.2.1.choose_spec.lt
 go_simp
 (refine (kweights_any n _ L (by have := HM.out.n5; omega) _ (loads_of_row hH.2.1.L)).mono ?_; rintro e w' ⟨uV, rfl, rV, hb⟩; replace rV := ownsRow_base (b1 := bs + 1) rV (by omega); clear zz; replace rT := row_call rT hb; replace rc := row_call rc hb; (try replace kN := kN.call hb))
 refine hK.out _ _ ?_ ?_
 · exact ⟨hH.1.call hb, hH.2.1.call hb, row_call hH.2.2.1 hb, hH.2.2.2.1.imp (fun _ h => h.call hb), bwS hH.2.2.2.2 (Nat.le_refl _) hb⟩
 (try clear hH); (try clear hd); (try clear hb)
 intro hH
 clear hK K
 (try simp only [cq])
 refine wpAnyH_ready (rs := [17]) (by kernel_rfl) (by simp) ?_
 refine arc1 (some 53) fun K hK => ?_
 have zz := hH.2.2.2.1.choose_spec.lt
 go_simp
 (refine (kinside_in (bs + 1) n _ (fun i => (L i).w0) (fun i => (L i).w1) (by have := HM.out.n5; omega) (fun i hi => ⟨Int.le_trans (by decide) (HM.out.hL i hi).w0, (HM.out.hL i hi).w01, Int.le_trans (HM.out.hL i hi).w1 (by decide)⟩) bs (by omega) _ hH.2.2.2.1 rV).mono ?_; rintro e w' ⟨uW, xW, rfl, hW, rW, hd⟩; replace rW := ownsRow_base (b1 := bs + 1) rW (by omega); clear zz; obtain ⟨aW, cW, hvW, _, _, _⟩ := ints_of_row rW; subst hvW; replace rT := hd.row rT (by omega); replace rc := hd.row rc (by omega); (try replace kN := hd.blk kN (by omega)); clear rV)
 refine hK.out _ _ ?_ ?_
 · (exact ⟨hd.blk hH.1 (by omega), hH.2.1.drawn hd (by omega), hd.row hH.2.2.1 (by omega), hd.seed, Drawn.below hH.2.2.2.2 hd zwbs⟩)
 (try clear hH); (try clear hd); (try clear hb)
 intro hH
 clear hK K
 (try simp only [cq])
 refine tkY 18 (some 54) ?_ ?_ ?_
 rotate_left
 · intro w _; go_simp; (try with_reducible rfl)
 (try simp only [cq])
 refine wpAnyH_ready (rs := [20]) (by kernel_rfl) (by simp) ?_
 refine arc1 none fun K hK => ?_
 obtain ⟨q0, q1, q2, q3⟩ := kN.c4
 have f0 := kN.free 0
 have f1 := kN.free 1
 have f2 := kN.free 2
 have f3 := kN.free 3
 have zN2 := kN.lt
 have HS := Lib.hid (kN.set4 (.int .i64 σ) (.slice aT ni cT) (.slice ac nc cc) (.slice aW n cW))
 have HG := Lib.hid (And.intro (hH.1.other4 (blk_ne hH.1 kN (by decide)) (.int .i64 σ) (.slice aT ni cT) (.slice ac nc cc) (.slice aW n cW)) (And.intro (hH.2.1.put4 kN (.int .i64 σ) (.slice aT ni cT) (.slice ac nc cc) (.slice aW n cW)) (And.intro (row_put4 hH.2.2.1 kN (by decide) (.int .i64 σ) (.slice aT ni cT) (.slice ac nc cc) (.slice aW n cW)) (And.intro (hH.2.2.2.1.put4 kN (.int .i64 σ) (.slice aT ni cT) (.slice ac nc cc) (.slice aW n cW)) (below_set4 hH.2.2.2.2 zN (.int .i64 σ) (.slice aT ni cT) (.slice ac nc cc) (.slice aW n cW))))))
 have GT := Lib.hid (ints_of_row (row_put4 rT kN (by decide) (.int .i64 σ) (.slice aT ni cT) (.slice ac nc cc) (.slice aW n cW)))
 have Gc := Lib.hid (ints_of_row (row_put4 rc kN (by decide) (.int .i64 σ) (.slice aT ni cT) (.slice ac nc cc) (.slice aW n cW)))
 have GW := Lib.hid (ints_of_row (row_put4 rW kN (by decide) (.int .i64 σ) (.slice aT ni cT) (.slice ac nc cc) (.slice aW n cW)))
 go_simp
 refine hK.out _ _ ?_ ?_
 · exact HG.out
 (try clear hH); (try clear hd); (try clear hb)
 intro hH
 clear hK K
 (try simp only [cq])
 refine wpAnyH_done (by kernel_rfl) ?_ _
 (try dsimp only [Act.put])
 (try simp only [cq])
 clear q0 q1 q2 q3 f0 f1 f2 f3 zN2 HG kN rT rc rW
 go_wp2_with fail
 go_meet
 exact ⟨bN, _, _, _, ⟨σ, xT, xc, xW⟩, rfl, HS.out, GT.out, Gc.out, GW.out, ⟨σ0, σ1⟩, hT, hc, hW, hH⟩
 }
 exact AllReadyH.nil )
  case rest =>
    clear jX hR rR hS jB
    obtain ⟨bT, vT, vc, vW, t, rfl, jT, hT, hc, hW, hσ, hT2, hc2, hW2, jX, hR, rR, _, jB⟩ := hcut
    obtain ⟨aT, cT, rfl, _, _, _⟩ := id hT
    obtain ⟨ac, cc, rfl, _, _, _⟩ := id hc
    obtain ⟨aW, cW, rfl, _, _, _⟩ := id hW
    obtain ⟨V3, hVV⟩ : ∃ V3, V3 = wc := ⟨_, rfl⟩
    subst hVV
    have hM := HM.out
    have HBo : Hid (∀ i : Nat, i < n → ∀ W, Below V3.heap.size V3 W → Calls Try.prog 58 #[.agg #[.int .i64 p.s0, .int .i64 p.s1, (.slice aS p.S.n cS), (.slice aC p.C.n cC), .int .i64 p.ne, .int .i64 p.ed, .int .i64 p.gr, .int .i64 p.lo, .int .i64 p.hi, .int .i64 p.sh, .int .i64 p.wi], (.slice aL n cL), .agg #[.int .i64 t.σ, .slice aT ni cT, .slice ac nc cc, .slice aW n cW], .int .i64 i] W fun e w' => e = .returned (.bool (borneT p t nc n L (L i))) ∧ Below W.heap.size W w') := fun i hi W hb =>
      borne_any p hM.hp _ _ _ _ _ _ t ni nc n L i hi ⟨by have := hM.hp.s0; have := hM.hp.s1; omega, fun k hk => by have := hT2 k hk; have := hM.hi k hk; omega, fun k hk => by have := hc2 k hk; have := hM.hc k hk; omega, fun k hk => by have := hW2 k hk; have := (hM.hL k hk).w0; have := (hM.hL k hk).w1; omega, by have := hM.n5; omega, fun k hk => by have := (hM.hL k hk).me0; have := (hM.hL k hk).me1; have := hM.ni4; omega, by have := (hM.hL i hi).me0; have := (hM.hL i hi).me1; have := hM.ni4; omega, (hM.hL i hi).me1⟩ W ((pairs_of_row hR.S).later hb) ((pairs_of_row hR.C).later hb) ((loads_of_row hR.L).later hb) (hT.later hb) (hc.later hb) (hW.later hb)
    have HVe : Hid (∀ i : Nat, i < n → (X i = 1 → borneT p t nc n L (L i) = true) ∧ (X i = 2 → borneT p t nc n L (L i) = false)) := fun i hi => by
      have hin : t.In p I0 I1 nc C0 C1 n L (L i).me := by
        have q := hM.hL i hi
        have q0 := q.me0
        have q1 := q.me1
        have hk : ((L i).me / 100).toNat < ni := by omega
        exact ⟨hσ.1, hσ.2, (hT2 _ hk).1, (hT2 _ hk).2, (hM.hi _ hk).1, hc2, fun j hj => ⟨(hM.hL j hj).w0, (hW2 j hj).1, (hW2 j hj).2⟩⟩
      rw [HX.out]
      show (verdV p I0 I1 nc C0 C1 n L (L i) = 1 → _) ∧ (verdV p I0 I1 nc C0 C1 n L (L i) = 2 → _)
      unfold verdV
      cases h1 : bearsV p false I0 I1 nc C0 C1 n L (L i) with
      | true => exact ⟨fun _ => true_worst hM.hp hin h1, fun h => by simp at h⟩
      | false =>
        cases h2 : bearsV p true I0 I1 nc C0 C1 n L (L i) with
        | true => exact ⟨fun h => by simp at h, fun h => by simp at h⟩
        | false =>
          refine ⟨fun h => by simp at h, fun _ => ?_⟩
          cases h3 : borneT p t nc n L (L i) with
          | false => rfl
          | true => rw [true_best hM.hp hin h3] at h2; simp at h2
    have hRi := ints_of_row rR
    obtain ⟨aR2, cR2, hv2, _, _, hR3⟩ := hRi
    simp only [Value.slice.injEq] at hv2
    obtain ⟨rfl, _, rfl⟩ := hv2
    have HR3 := Lib.hid hR3
    have HJ := Lib.hid (And.intro jX jT)
    have HB := Lib.hid jB
    have hn5 := hM.n5
    clear hM HM HX hR rR hT hc hW hσ hT2 hc2 hW2 hR3 jX jT jB hp0 hp1 hp2
    go_wp2_with fail
    go_loopw [8] (fun i wr => ∃ k : Nat, k ≤ n ∧ i = .int .i64 k ∧ Below V3.heap.size V3 wr) (fun i _ => n - (intOf i).toNat)
    case atStart => exact ⟨0, Nat.zero_le _, rfl, Below.refl _ _⟩
    case round =>
      obtain ⟨k, hk, rfl, hB⟩ := hrel
      by_cases hlt2 : k < n
      · obtain ⟨b, o, ha, hcR⟩ := HR3.out (by omega)
        subst ha
        have a0 := hcR k hlt2
        clear hcR HR3
        have HBk := Lib.hid (HBo.out k hlt2)
        obtain ⟨hv1, hv2⟩ := HVe.out k hlt2
        have HV1 := Lib.hid hv1
        have HV2 := Lib.hid hv2
        clear hv1 hv2 HBo HVe
        generalize X k = xv at a0 HV1 HV2
        generalize borneT p t nc n L (L k) = q at HBk HV1 HV2
        have jX := HJ.out.1.call hB
        have jT := HJ.out.2.call hB
        obtain ⟨m0, m1, m2, m3, m4, m5, m6, m7, m8, m9, m10, m11, m12, m13⟩ := jX.c14
        obtain ⟨t0, t1, t2, t3⟩ := jT.c4
        have zX2 := jX.lt
        have zT2 := jT.lt
        go_wp2_with fail
        clear m0 m1 m2 m3 m4 m5 m6 m7 m8 m9 m10 m11 m12 m13 t0 t1 t2 t3 zX2 zT2 jX jT
        refine (HBk.out _ hB).mono ?_
        rintro e w4 ⟨rfl, hb⟩
        have hB2 := bwS hB (Nat.le_refl _) hb
        have c0 := cell_later hB2 a0
        have z0 := World.block_lt_of_cell? _ _ c0
        clear hb hB HBk a0
        by_cases x1 : xv = 1
        · have hq := HV1.out x1
          subst x1
          subst hq
          clear HV1 HV2
          go_wp2
          go_roundw
          case rel => exact ⟨k + 1, by omega, by go_num, hB2⟩
          case measure => simp [intOf]; omega
        by_cases x2 : xv = 2
        · have hq := HV2.out x2
          subst x2
          subst hq
          clear HV1 HV2
          go_wp2
          go_roundw
          case rel => exact ⟨k + 1, by omega, by go_num, hB2⟩
          case measure => simp [intOf]; omega
        have e1 : (xv == 1) = false := by simpa using x1
        have e2 : (xv == 2) = false := by simpa using x2
        clear HV1 HV2 x1 x2
        go_wp2
        go_roundw
        case rel => exact ⟨k + 1, by omega, by go_num, hB2⟩
        case measure => simp [intOf]; omega
      · have jB := bwS HB.out (by have := HB.out.size; omega) hB
        clear hB
        go_wp2_with fail
        refine (awake_any _).mono ?_
        rintro e w9 ⟨rfl, hb⟩
        replace jB := bwS jB (Nat.le_refl _) hb
        go_wp2
        go_ret
        exact ⟨rfl, jB⟩
end Go.Proofs.Ytfakmggabicdjaa

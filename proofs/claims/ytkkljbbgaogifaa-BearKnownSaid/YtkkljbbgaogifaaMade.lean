/-
  What BearTruth and its like make of numbers: a plate, ice, cracks and loads.
-/
import Derived.Test.YtkkljbbgaogifaaLists
set_option linter.unusedVariables false
set_option linter.unusedSimpArgs false
namespace Go.Proofs.Ytkkljbbgaogifaa
open Go.RowKit

theorem Blk.c14 {w : World} {b : Nat} {x0 x1 x2 x3 x4 x5 x6 x7 x8 x9 x10 x11 x12 x13 : Value} {t : TypeId} (h : Blk w b #[x0, x1, x2, x3, x4, x5, x6, x7, x8, x9, x10, x11, x12, x13] t) : w.cell? ⟨b, 0, none⟩ = some x0 ∧ w.cell? ⟨b, 1, none⟩ = some x1 ∧ w.cell? ⟨b, 2, none⟩ = some x2 ∧ w.cell? ⟨b, 3, none⟩ = some x3 ∧ w.cell? ⟨b, 4, none⟩ = some x4 ∧ w.cell? ⟨b, 5, none⟩ = some x5 ∧ w.cell? ⟨b, 6, none⟩ = some x6 ∧ w.cell? ⟨b, 7, none⟩ = some x7 ∧ w.cell? ⟨b, 8, none⟩ = some x8 ∧ w.cell? ⟨b, 9, none⟩ = some x9 ∧ w.cell? ⟨b, 10, none⟩ = some x10 ∧ w.cell? ⟨b, 11, none⟩ = some x11 ∧ w.cell? ⟨b, 12, none⟩ = some x12 ∧ w.cell? ⟨b, 13, none⟩ = some x13 :=
  ⟨h.cell 0 rfl, h.cell 1 rfl, h.cell 2 rfl, h.cell 3 rfl, h.cell 4 rfl, h.cell 5 rfl, h.cell 6 rfl, h.cell 7 rfl, h.cell 8 rfl, h.cell 9 rfl, h.cell 10 rfl, h.cell 11 rfl, h.cell 12 rfl, h.cell 13 rfl⟩
theorem Blk.set14 {w : World} {b : Nat} {x0 x1 x2 x3 x4 x5 x6 x7 x8 x9 x10 x11 x12 x13 : Value} {t : TypeId} (h : Blk w b #[x0, x1, x2, x3, x4, x5, x6, x7, x8, x9, x10, x11, x12, x13] t) (y0 y1 y2 y3 y4 y5 y6 y7 y8 y9 y10 y11 y12 y13 : Value) :
    Blk ((((((((((((((w.setCell ⟨b, 0, none⟩ y0).setCell ⟨b, 1, none⟩ y1).setCell ⟨b, 2, none⟩ y2).setCell ⟨b, 3, none⟩ y3).setCell ⟨b, 4, none⟩ y4).setCell ⟨b, 5, none⟩ y5).setCell ⟨b, 6, none⟩ y6).setCell ⟨b, 7, none⟩ y7).setCell ⟨b, 8, none⟩ y8).setCell ⟨b, 9, none⟩ y9).setCell ⟨b, 10, none⟩ y10).setCell ⟨b, 11, none⟩ y11).setCell ⟨b, 12, none⟩ y12).setCell ⟨b, 13, none⟩ y13) b #[y0, y1, y2, y3, y4, y5, y6, y7, y8, y9, y10, y11, y12, y13] t := by
  have a0 : Blk _ b #[y0, x1, x2, x3, x4, x5, x6, x7, x8, x9, x10, x11, x12, x13] t := h.set 0 y0
  have a1 : Blk _ b #[y0, y1, x2, x3, x4, x5, x6, x7, x8, x9, x10, x11, x12, x13] t := a0.set 1 y1
  have a2 : Blk _ b #[y0, y1, y2, x3, x4, x5, x6, x7, x8, x9, x10, x11, x12, x13] t := a1.set 2 y2
  have a3 : Blk _ b #[y0, y1, y2, y3, x4, x5, x6, x7, x8, x9, x10, x11, x12, x13] t := a2.set 3 y3
  have a4 : Blk _ b #[y0, y1, y2, y3, y4, x5, x6, x7, x8, x9, x10, x11, x12, x13] t := a3.set 4 y4
  have a5 : Blk _ b #[y0, y1, y2, y3, y4, y5, x6, x7, x8, x9, x10, x11, x12, x13] t := a4.set 5 y5
  have a6 : Blk _ b #[y0, y1, y2, y3, y4, y5, y6, x7, x8, x9, x10, x11, x12, x13] t := a5.set 6 y6
  have a7 : Blk _ b #[y0, y1, y2, y3, y4, y5, y6, y7, x8, x9, x10, x11, x12, x13] t := a6.set 7 y7
  have a8 : Blk _ b #[y0, y1, y2, y3, y4, y5, y6, y7, y8, x9, x10, x11, x12, x13] t := a7.set 8 y8
  have a9 : Blk _ b #[y0, y1, y2, y3, y4, y5, y6, y7, y8, y9, x10, x11, x12, x13] t := a8.set 9 y9
  have a10 : Blk _ b #[y0, y1, y2, y3, y4, y5, y6, y7, y8, y9, y10, x11, x12, x13] t := a9.set 10 y10
  have a11 : Blk _ b #[y0, y1, y2, y3, y4, y5, y6, y7, y8, y9, y10, y11, x12, x13] t := a10.set 11 y11
  have a12 : Blk _ b #[y0, y1, y2, y3, y4, y5, y6, y7, y8, y9, y10, y11, y12, x13] t := a11.set 12 y12
  have a13 : Blk _ b #[y0, y1, y2, y3, y4, y5, y6, y7, y8, y9, y10, y11, y12, y13] t := a12.set 13 y13
  exact a13
theorem Drawn.set14 {bs : Nat} {w v : World} (h : Drawn bs w v) {b : Nat} (hp : w.heap.size ≤ b) (hb : bs < w.heap.size) (y0 y1 y2 y3 y4 y5 y6 y7 y8 y9 y10 y11 y12 y13 : Value) :
    Drawn bs w ((((((((((((((v.setCell ⟨b, 0, none⟩ y0).setCell ⟨b, 1, none⟩ y1).setCell ⟨b, 2, none⟩ y2).setCell ⟨b, 3, none⟩ y3).setCell ⟨b, 4, none⟩ y4).setCell ⟨b, 5, none⟩ y5).setCell ⟨b, 6, none⟩ y6).setCell ⟨b, 7, none⟩ y7).setCell ⟨b, 8, none⟩ y8).setCell ⟨b, 9, none⟩ y9).setCell ⟨b, 10, none⟩ y10).setCell ⟨b, 11, none⟩ y11).setCell ⟨b, 12, none⟩ y12).setCell ⟨b, 13, none⟩ y13) :=
  (((((((((((((h.set (p := ⟨b, 0, none⟩) hp hb y0).set (p := ⟨b, 1, none⟩) hp hb y1).set (p := ⟨b, 2, none⟩) hp hb y2).set (p := ⟨b, 3, none⟩) hp hb y3).set (p := ⟨b, 4, none⟩) hp hb y4).set (p := ⟨b, 5, none⟩) hp hb y5).set (p := ⟨b, 6, none⟩) hp hb y6).set (p := ⟨b, 7, none⟩) hp hb y7).set (p := ⟨b, 8, none⟩) hp hb y8).set (p := ⟨b, 9, none⟩) hp hb y9).set (p := ⟨b, 10, none⟩) hp hb y10).set (p := ⟨b, 11, none⟩) hp hb y11).set (p := ⟨b, 12, none⟩) hp hb y12).set (p := ⟨b, 13, none⟩) hp hb y13
theorem row_set14 {w : World} {base s n : Nat} {e : TypeId} {v : Value} {xs : List Value} (h : w.ownsRow base e s v n xs) {b : Nat} (hb : b < base) (y0 y1 y2 y3 y4 y5 y6 y7 y8 y9 y10 y11 y12 y13 : Value) :
    ((((((((((((((w.setCell ⟨b, 0, none⟩ y0).setCell ⟨b, 1, none⟩ y1).setCell ⟨b, 2, none⟩ y2).setCell ⟨b, 3, none⟩ y3).setCell ⟨b, 4, none⟩ y4).setCell ⟨b, 5, none⟩ y5).setCell ⟨b, 6, none⟩ y6).setCell ⟨b, 7, none⟩ y7).setCell ⟨b, 8, none⟩ y8).setCell ⟨b, 9, none⟩ y9).setCell ⟨b, 10, none⟩ y10).setCell ⟨b, 11, none⟩ y11).setCell ⟨b, 12, none⟩ y12).setCell ⟨b, 13, none⟩ y13).ownsRow base e s v n xs :=
  ownsRow_setCell_below (ownsRow_setCell_below (ownsRow_setCell_below (ownsRow_setCell_below (ownsRow_setCell_below (ownsRow_setCell_below (ownsRow_setCell_below (ownsRow_setCell_below (ownsRow_setCell_below (ownsRow_setCell_below (ownsRow_setCell_below (ownsRow_setCell_below (ownsRow_setCell_below (ownsRow_setCell_below h (a := (⟨b, 0, none⟩ : Addr)) hb y0) (a := (⟨b, 1, none⟩ : Addr)) hb y1) (a := (⟨b, 2, none⟩ : Addr)) hb y2) (a := (⟨b, 3, none⟩ : Addr)) hb y3) (a := (⟨b, 4, none⟩ : Addr)) hb y4) (a := (⟨b, 5, none⟩ : Addr)) hb y5) (a := (⟨b, 6, none⟩ : Addr)) hb y6) (a := (⟨b, 7, none⟩ : Addr)) hb y7) (a := (⟨b, 8, none⟩ : Addr)) hb y8) (a := (⟨b, 9, none⟩ : Addr)) hb y9) (a := (⟨b, 10, none⟩ : Addr)) hb y10) (a := (⟨b, 11, none⟩ : Addr)) hb y11) (a := (⟨b, 12, none⟩ : Addr)) hb y12) (a := (⟨b, 13, none⟩ : Addr)) hb y13

structure Made (p : Pl) (ni : Nat) (I0 I1 : Nat → Int) (nc : Nat) (C0 C1 : Nat → Int) (n : Nat) (L : Nat → Ld) : Prop where
  hp : p.Ok
  ni1 : 1 ≤ ni
  ni4 : ni ≤ 4
  hi : ∀ i, i < ni → 0 ≤ I0 i ∧ I0 i ≤ I1 i ∧ I1 i ≤ 1500
  nc3 : nc ≤ 3
  hc : ∀ i, i < nc → 0 ≤ C0 i ∧ C0 i ≤ C1 i ∧ C1 i ≤ 10030
  n5 : n ≤ 5
  hL : ∀ i, i < n → (L i).Ok ni
structure Rows (w : World) (base : Nat) (p : Pl) (vS vC vI vK vL : Value) (ni : Nat) (I0 I1 : Nat → Int) (nc : Nat) (C0 C1 : Nat → Int) (n : Nat) (L : Nat → Ld) : Prop where
  S : w.ownsRow base 68 2 vS p.S.n (catC (pairC p.S.F p.S.P) p.S.n)
  C : w.ownsRow base 68 2 vC p.C.n (catC (pairC p.C.F p.C.P) p.C.n)
  I : w.ownsRow base 23 2 vI ni (catC (pairC I0 I1) ni)
  K : w.ownsRow base 23 2 vK nc (catC (pairC C0 C1) nc)
  L : w.ownsRow base 53 4 vL n (catC (loadC L) n)

set_option maxRecDepth 100000 in
set_option maxHeartbeats 16000000 in
theorem madeof_in (bs : Nat) (w : World) (hs : SeedAt bs w) :
    Calls Try.prog 54 #[.pointer (some ⟨bs, 0, none⟩)] w fun e w' => ∃ (p : Pl) (vS vC vI vK vL : Value) (ni : Nat) (I0 I1 : Nat → Int) (nc : Nat) (C0 C1 : Nat → Int) (n : Nat) (L : Nat → Ld), e = .returned (.agg #[.int .i64 p.s0, .int .i64 p.s1, vS, vC, .int .i64 p.ne, .int .i64 p.ed, .int .i64 p.gr, .int .i64 p.lo, .int .i64 p.hi, .int .i64 p.sh, .int .i64 p.wi, vI, vK, vL]) ∧ Made p ni I0 I1 nc C0 C1 n L ∧ Rows w' (w.heap.size + 1) p vS vC vI vK vL ni I0 I1 nc C0 C1 n L ∧ Drawn bs w w' := by
  have hbs : bs < w.heap.size := hs.choose_spec.lt
  have hA := Drawn.alloc hs (.cells #[.int .i64 0, .int .i64 0, .slice none 0 0, .slice none 0 0, .int .i64 0, .int .i64 0, .int .i64 0, .int .i64 0, .int .i64 0, .int .i64 0, .int .i64 0, .slice none 0 0, .slice none 0 0, .slice none 0 0] 71)
  have jO := Blk.new w #[.int .i64 0, .int .i64 0, .slice none 0 0, .slice none 0 0, .int .i64 0, .int .i64 0, .int .i64 0, .int .i64 0, .int .i64 0, .int .i64 0, .int .i64 0, .slice none 0 0, .slice none 0 0, .slice none 0 0] 71
  go_enter Try.func54, Try.ntmps54
  go_wp2_with fail
  refine (plateof_in bs _ hA.seed).mono ?_
  rintro e w1 ⟨p, vS, vC, rfl, hp, jS, jC, hd⟩
  replace jO := hd.blk jO (by omega)
  replace hA := hA.trans hd
  clear hd
  replace jS := ownsRow_base (b1 := w.heap.size + 1) jS (by simp)
  replace jC := ownsRow_base (b1 := w.heap.size + 1) jC (by simp)
  have kS := pairs_of_row jS
  obtain ⟨aS, cS, hvS, _, _, _⟩ := kS
  subst hvS
  have kC := pairs_of_row jC
  obtain ⟨aC, cC, hvC, _, _, _⟩ := kC
  subst hvC
  go_wp2_with fail
  refine (bedsof_in 4 (by decide) bs _ hA.seed).mono ?_
  rintro e w2 ⟨ni, I0, I1, vI, rfl, ni1, ni4, hI, jI, hd⟩
  have zO1 := jO.lt
  replace jO := hd.blk jO (by omega)
  replace jS := hd.row jS (by omega)
  replace jC := hd.row jC (by omega)
  replace hA := hA.trans hd
  clear hd
  replace jI := ownsRow_base (b1 := w.heap.size + 1) jI (by omega)
  have kI := pairs_of_row jI
  obtain ⟨aI, cI, hvI, _, _, _⟩ := kI
  subst hvI
  have zO := jO.lt
  have jM := Blk.new w2 #[.int .i64 p.s0, .int .i64 p.s1, (.slice aS p.S.n cS), (.slice aC p.C.n cC), .int .i64 p.ne, .int .i64 p.ed, .int .i64 p.gr, .int .i64 p.lo, .int .i64 p.hi, .int .i64 p.sh, .int .i64 p.wi, (.slice aI ni cI), (.slice none 0 0), (.slice none 0 0)] 71
  obtain ⟨bM, hbM⟩ : ∃ b, w2.heap.size = b := ⟨_, rfl⟩
  have qS : ∀ k, (Value.slice aS p.S.n cS).ownBlock = some k → k < bM := fun k e => by rw [← hbM]; exact (jS.lt k e).2
  have qC : ∀ k, (Value.slice aC p.C.n cC).ownBlock = some k → k < bM := fun k e => by rw [← hbM]; exact (jC.lt k e).2
  have qI : ∀ k, (Value.slice aI ni cI).ownBlock = some k → k < bM := fun k e => by rw [← hbM]; exact (jI.lt k e).2
  rw [hbM] at jM zO
  replace hA := hA.new (.cells #[.int .i64 p.s0, .int .i64 p.s1, (.slice aS p.S.n cS), (.slice aC p.C.n cC), .int .i64 p.ne, .int .i64 p.ed, .int .i64 p.gr, .int .i64 p.lo, .int .i64 p.hi, .int .i64 p.sh, .int .i64 p.wi, (.slice aI ni cI), (.slice none 0 0), (.slice none 0 0)] 71)
  replace jO := jO.alloc (.cells #[.int .i64 p.s0, .int .i64 p.s1, (.slice aS p.S.n cS), (.slice aC p.C.n cC), .int .i64 p.ne, .int .i64 p.ed, .int .i64 p.gr, .int .i64 p.lo, .int .i64 p.hi, .int .i64 p.sh, .int .i64 p.wi, (.slice aI ni cI), (.slice none 0 0), (.slice none 0 0)] 71)
  replace jS := jS.alloc (.cells #[.int .i64 p.s0, .int .i64 p.s1, (.slice aS p.S.n cS), (.slice aC p.C.n cC), .int .i64 p.ne, .int .i64 p.ed, .int .i64 p.gr, .int .i64 p.lo, .int .i64 p.hi, .int .i64 p.sh, .int .i64 p.wi, (.slice aI ni cI), (.slice none 0 0), (.slice none 0 0)] 71)
  replace jC := jC.alloc (.cells #[.int .i64 p.s0, .int .i64 p.s1, (.slice aS p.S.n cS), (.slice aC p.C.n cC), .int .i64 p.ne, .int .i64 p.ed, .int .i64 p.gr, .int .i64 p.lo, .int .i64 p.hi, .int .i64 p.sh, .int .i64 p.wi, (.slice aI ni cI), (.slice none 0 0), (.slice none 0 0)] 71)
  replace jI := jI.alloc (.cells #[.int .i64 p.s0, .int .i64 p.s1, (.slice aS p.S.n cS), (.slice aC p.C.n cC), .int .i64 p.ne, .int .i64 p.ed, .int .i64 p.gr, .int .i64 p.lo, .int .i64 p.hi, .int .i64 p.sh, .int .i64 p.wi, (.slice aI ni cI), (.slice none 0 0), (.slice none 0 0)] 71)
  go_upto_region 2 with fail
  (try rw [hbM])
  clear hbM
  generalize w2.alloc (.cells #[.int .i64 p.s0, .int .i64 p.s1, (.slice aS p.S.n cS), (.slice aC p.C.n cC), .int .i64 p.ne, .int .i64 p.ed, .int .i64 p.gr, .int .i64 p.lo, .int .i64 p.hi, .int .i64 p.sh, .int .i64 p.wi, (.slice aI ni cI), (.slice none 0 0), (.slice none 0 0)] 71) = V at jM hA jO jS jC jI ⊢
  obtain ⟨m0, m1, m2, m3, m4, m5, m6, m7, m8, m9, m10, m11, m12, m13⟩ := jM.c14
  have zM := jM.lt
  go_wp2_with fail
  clear m0 m1 m2 m3 m4 m5 m6 m7 m8 m9 m10 m11 m12 m13
  refine (cracksof_in ni 3 (by omega) (by decide) bs _ hA.seed).mono ?_
  rintro e w3 ⟨nc, C0, C1, vK, rfl, nc3, hC, jK, hd⟩
  replace jO := hd.blk jO (by omega)
  replace jM := hd.blk jM (by omega)
  replace jS := hd.row jS (by omega)
  replace jC := hd.row jC (by omega)
  replace jI := hd.row jI (by omega)
  replace hA := hA.trans hd
  clear hd
  replace jK := ownsRow_base (b1 := bM + 1) jK (by omega)
  have kK := pairs_of_row jK
  obtain ⟨aK, cK, hvK, _, _, _⟩ := kK
  subst hvK
  obtain ⟨m0, m1, m2, m3, m4, m5, m6, m7, m8, m9, m10, m11, m12, m13⟩ := jM.c14
  have zM3 := jM.lt
  have fM := jM.free 12
  have kM : Blk _ bM #[.int .i64 p.s0, .int .i64 p.s1, (.slice aS p.S.n cS), (.slice aC p.C.n cC), .int .i64 p.ne, .int .i64 p.ed, .int .i64 p.gr, .int .i64 p.lo, .int .i64 p.hi, .int .i64 p.sh, .int .i64 p.wi, (.slice aI ni cI), (.slice aK nc cK), (.slice none 0 0)] _ := jM.set 12 (.slice aK nc cK)
  have kO := jO.other ⟨bM, 12, none⟩ (.slice aK nc cK) (by simp; omega)
  have kS := ownsRow_other jS ⟨bM, 12, none⟩ (.slice aK nc cK) (fun k e => by simpa using qS k e)
  have kC := ownsRow_other jC ⟨bM, 12, none⟩ (.slice aK nc cK) (fun k e => by simpa using qC k e)
  have kI := ownsRow_other jI ⟨bM, 12, none⟩ (.slice aK nc cK) (fun k e => by simpa using qI k e)
  have kK := ownsRow_setCell_below jK (a := ⟨bM, 12, none⟩) (by simp) (.slice aK nc cK)
  have kA := hA.set (p := ⟨bM, 12, none⟩) (by simp; omega) hbs (.slice aK nc cK)
  clear jM jO jS jC jI jK hA
  go_upto_region 3 with fail
  clear m0 m1 m2 m3 m4 m5 m6 m7 m8 m9 m10 m11 m12 m13 fM zM3 zM
  generalize w3.setCell ⟨bM, 12, none⟩ (.slice aK nc cK) = W at kM kO kS kC kI kK kA ⊢
  obtain ⟨m0, m1, m2, m3, m4, m5, m6, m7, m8, m9, m10, m11, m12, m13⟩ := kM.c14
  have zM := kM.lt
  go_wp2_with fail
  clear m0 m1 m2 m3 m4 m5 m6 m7 m8 m9 m10 m11 m12 m13
  refine (loadsof_in ni 5 (by omega) (by decide) bs _ kA.seed).mono ?_
  rintro e w4 ⟨n, L, vL, rfl, n5, hL, jL, hd⟩
  replace kO := hd.blk kO (by omega)
  replace kM := hd.blk kM (by omega)
  replace kS := hd.row kS (by omega)
  replace kC := hd.row kC (by omega)
  replace kI := hd.row kI (by omega)
  have qK : ∀ k, (Value.slice aK nc cK).ownBlock = some k → k ≠ bM := fun k e => by have := (kK.lt k e).1; omega
  replace kK := hd.row kK (by omega)
  replace kA := kA.trans hd
  clear hd
  replace jL := ownsRow_base (b1 := bM + 1) jL (by omega)
  have kL := loads_of_row jL
  obtain ⟨aL, cL, hvL, _, _, _⟩ := kL
  subst hvL
  obtain ⟨m0, m1, m2, m3, m4, m5, m6, m7, m8, m9, m10, m11, m12, m13⟩ := kM.c14
  have zM4 := kM.lt
  have fM := kM.free 13
  have lM : Blk _ bM #[.int .i64 p.s0, .int .i64 p.s1, (.slice aS p.S.n cS), (.slice aC p.C.n cC), .int .i64 p.ne, .int .i64 p.ed, .int .i64 p.gr, .int .i64 p.lo, .int .i64 p.hi, .int .i64 p.sh, .int .i64 p.wi, (.slice aI ni cI), (.slice aK nc cK), (.slice aL n cL)] _ := kM.set 13 (.slice aL n cL)
  have lO := kO.other ⟨bM, 13, none⟩ (.slice aL n cL) (by simp; omega)
  have lS := ownsRow_other kS ⟨bM, 13, none⟩ (.slice aL n cL) (fun k e => by simpa using qS k e)
  have lC := ownsRow_other kC ⟨bM, 13, none⟩ (.slice aL n cL) (fun k e => by simpa using qC k e)
  have lI := ownsRow_other kI ⟨bM, 13, none⟩ (.slice aL n cL) (fun k e => by simpa using qI k e)
  have lK := ownsRow_setCell_below kK (a := ⟨bM, 13, none⟩) (by simp) (.slice aL n cL)
  have lL := ownsRow_setCell_below jL (a := ⟨bM, 13, none⟩) (by simp) (.slice aL n cL)
  have lA := kA.set (p := ⟨bM, 13, none⟩) (by simp; omega) hbs (.slice aL n cL)
  clear kM kO kS kC kI kK kA jL
  go_upto_region 4 with fail
  clear m0 m1 m2 m3 m4 m5 m6 m7 m8 m9 m10 m11 m12 m13 fM zM4 zM
  generalize w4.setCell ⟨bM, 13, none⟩ (.slice aL n cL) = U at lM lO lS lC lI lK lL lA ⊢
  replace lK := ownsRow_base (b1 := w.heap.size + 1) lK (by omega)
  replace lL := ownsRow_base (b1 := w.heap.size + 1) lL (by omega)
  have HQ := Lib.hid (lO.set14 (.int .i64 p.s0) (.int .i64 p.s1) (.slice aS p.S.n cS) (.slice aC p.C.n cC) (.int .i64 p.ne) (.int .i64 p.ed) (.int .i64 p.gr) (.int .i64 p.lo) (.int .i64 p.hi) (.int .i64 p.sh) (.int .i64 p.wi) (.slice aI ni cI) (.slice aK nc cK) (.slice aL n cL)).c14
  have HD2 := Lib.hid (lA.set14 (b := w.heap.size) (Nat.le_refl _) hbs (.int .i64 p.s0) (.int .i64 p.s1) (.slice aS p.S.n cS) (.slice aC p.C.n cC) (.int .i64 p.ne) (.int .i64 p.ed) (.int .i64 p.gr) (.int .i64 p.lo) (.int .i64 p.hi) (.int .i64 p.sh) (.int .i64 p.wi) (.slice aI ni cI) (.slice aK nc cK) (.slice aL n cL))
  have HR := Lib.hid (show Rows _ (w.heap.size + 1) p (.slice aS p.S.n cS) (.slice aC p.C.n cC) (.slice aI ni cI) (.slice aK nc cK) (.slice aL n cL) ni I0 I1 nc C0 C1 n L from ⟨row_set14 lS (b := w.heap.size) (by omega) (.int .i64 p.s0) (.int .i64 p.s1) (.slice aS p.S.n cS) (.slice aC p.C.n cC) (.int .i64 p.ne) (.int .i64 p.ed) (.int .i64 p.gr) (.int .i64 p.lo) (.int .i64 p.hi) (.int .i64 p.sh) (.int .i64 p.wi) (.slice aI ni cI) (.slice aK nc cK) (.slice aL n cL), row_set14 lC (b := w.heap.size) (by omega) (.int .i64 p.s0) (.int .i64 p.s1) (.slice aS p.S.n cS) (.slice aC p.C.n cC) (.int .i64 p.ne) (.int .i64 p.ed) (.int .i64 p.gr) (.int .i64 p.lo) (.int .i64 p.hi) (.int .i64 p.sh) (.int .i64 p.wi) (.slice aI ni cI) (.slice aK nc cK) (.slice aL n cL), row_set14 lI (b := w.heap.size) (by omega) (.int .i64 p.s0) (.int .i64 p.s1) (.slice aS p.S.n cS) (.slice aC p.C.n cC) (.int .i64 p.ne) (.int .i64 p.ed) (.int .i64 p.gr) (.int .i64 p.lo) (.int .i64 p.hi) (.int .i64 p.sh) (.int .i64 p.wi) (.slice aI ni cI) (.slice aK nc cK) (.slice aL n cL), row_set14 lK (b := w.heap.size) (by omega) (.int .i64 p.s0) (.int .i64 p.s1) (.slice aS p.S.n cS) (.slice aC p.C.n cC) (.int .i64 p.ne) (.int .i64 p.ed) (.int .i64 p.gr) (.int .i64 p.lo) (.int .i64 p.hi) (.int .i64 p.sh) (.int .i64 p.wi) (.slice aI ni cI) (.slice aK nc cK) (.slice aL n cL), row_set14 lL (b := w.heap.size) (by omega) (.int .i64 p.s0) (.int .i64 p.s1) (.slice aS p.S.n cS) (.slice aC p.C.n cC) (.int .i64 p.ne) (.int .i64 p.ed) (.int .i64 p.gr) (.int .i64 p.lo) (.int .i64 p.hi) (.int .i64 p.sh) (.int .i64 p.wi) (.slice aI ni cI) (.slice aK nc cK) (.slice aL n cL)⟩)
  have HK : Hid (Made p ni I0 I1 nc C0 C1 n L) := ⟨hp, ni1, by omega, hI, by omega, hC, by omega, hL⟩
  obtain ⟨m0, m1, m2, m3, m4, m5, m6, m7, m8, m9, m10, m11, m12, m13⟩ := lM.c14
  obtain ⟨r0, r1, r2, r3, r4, r5, r6, r7, r8, r9, r10, r11, r12, r13⟩ := lO.c14
  have g0 := lO.free 0
  have g1 := lO.free 1
  have g2 := lO.free 2
  have g3 := lO.free 3
  have g4 := lO.free 4
  have g5 := lO.free 5
  have g6 := lO.free 6
  have g7 := lO.free 7
  have g8 := lO.free 8
  have g9 := lO.free 9
  have g10 := lO.free 10
  have g11 := lO.free 11
  have g12 := lO.free 12
  have g13 := lO.free 13
  have zR := lO.lt
  have zM := lM.lt
  clear lM lO lS lC lI lK lL lA hp hI hC hL qS qC qI qK
  go_wp2
  obtain ⟨z0, z1, z2, z3, z4, z5, z6, z7, z8, z9, z10, z11, z12, z13⟩ := HQ.out
  exact bodyPost_ret (v := .agg #[.int .i64 p.s0, .int .i64 p.s1, (.slice aS p.S.n cS), (.slice aC p.C.n cC), .int .i64 p.ne, .int .i64 p.ed, .int .i64 p.gr, .int .i64 p.lo, .int .i64 p.hi, .int .i64 p.sh, .int .i64 p.wi, (.slice aI ni cI), (.slice aK nc cK), (.slice aL n cL)]) (by simp [results, Try.results54, go_sem, z0, z1, z2, z3, z4, z5, z6, z7, z8, z9, z10, z11, z12, z13]) rfl ⟨p, _, _, _, _, _, ni, I0, I1, nc, C0, C1, n, L, rfl, HK.out, HR.out, HD2.out⟩
end Go.Proofs.Ytkkljbbgaogifaa

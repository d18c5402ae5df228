/-
  The kit's PlateOf: a valid plate.
-/
import Derived.Test.YtkkljbbgaogifaaTail
import Derived.Test.YtkkljbbgaogifaaTabOf
set_option linter.unusedVariables false
set_option linter.unusedSimpArgs false
namespace Go.Proofs.Ytkkljbbgaogifaa
open Go.RowKit

theorem of2_in (a b lo hi : Int) (bs : Nat) (w : World) (l : Nat) (hl : l = w.heap.size) (hs : SeedAt bs w) (a1 : lo ≤ a) (a2 : a ≤ hi) (b1 : lo ≤ b) (b2 : b ≤ hi) :
    Calls Try.prog 21 #[.pointer (some ⟨bs, 0, none⟩), .slice (some ⟨l, 0, none⟩) 2 2] (w.alloc (.cells #[.int .i64 a, .int .i64 b] 3)) fun e w' => ∃ v, e = .returned (.int .i64 v) ∧ lo ≤ v ∧ v ≤ hi ∧ Drawn bs (w.alloc (.cells #[.int .i64 a, .int .i64 b] 3)) w' := by
  subst hl
  have hlt : bs < w.heap.size := hs.choose_spec.lt
  have hk := Blk.new w #[.int .i64 a, .int .i64 b] 3
  refine (of_in w.heap.size 0 2 2 (fun i => match i with | 0 => a | _ => b) bs _ (Drawn.alloc hs _).seed (by omega) (by decide) (by decide) (fun i hi => ?_)).mono ?_
  · match i, hi with
    | 0, _ => exact hk.cell _ rfl
    | 1, _ => exact hk.cell _ rfl
  · rintro e w' ⟨i, hi, he, hd⟩
    match i, hi with
    | 0, _ => exact ⟨a, he, a1, a2, hd⟩
    | 1, _ => exact ⟨b, he, b1, b2, hd⟩

theorem of3_in (a b c lo hi : Int) (bs : Nat) (w : World) (l : Nat) (hl : l = w.heap.size) (hs : SeedAt bs w) (a1 : lo ≤ a) (a2 : a ≤ hi) (b1 : lo ≤ b) (b2 : b ≤ hi) (c1 : lo ≤ c) (c2 : c ≤ hi) :
    Calls Try.prog 21 #[.pointer (some ⟨bs, 0, none⟩), .slice (some ⟨l, 0, none⟩) 3 3] (w.alloc (.cells #[.int .i64 a, .int .i64 b, .int .i64 c] 3)) fun e w' => ∃ v, e = .returned (.int .i64 v) ∧ lo ≤ v ∧ v ≤ hi ∧ Drawn bs (w.alloc (.cells #[.int .i64 a, .int .i64 b, .int .i64 c] 3)) w' := by
  subst hl
  have hlt : bs < w.heap.size := hs.choose_spec.lt
  have hk := Blk.new w #[.int .i64 a, .int .i64 b, .int .i64 c] 3
  refine (of_in w.heap.size 0 3 3 (fun i => match i with | 0 => a | 1 => b | _ => c) bs _ (Drawn.alloc hs _).seed (by omega) (by decide) (by decide) (fun i hi => ?_)).mono ?_
  · match i, hi with
    | 0, _ => exact hk.cell _ rfl
    | 1, _ => exact hk.cell _ rfl
    | 2, _ => exact hk.cell _ rfl
  · rintro e w' ⟨i, hi, he, hd⟩
    match i, hi with
    | 0, _ => exact ⟨a, he, a1, a2, hd⟩
    | 1, _ => exact ⟨b, he, b1, b2, hd⟩
    | 2, _ => exact ⟨c, he, c1, c2, hd⟩

theorem Blk.set11 {w : World} {b : Nat} {x0 x1 x2 x3 x4 x5 x6 x7 x8 x9 x10 : Value} {t : TypeId} (h : Blk w b #[x0, x1, x2, x3, x4, x5, x6, x7, x8, x9, x10] t) (y0 y1 y2 y3 y4 y5 y6 y7 y8 y9 y10 : Value) :
    Blk (((((((((((w.setCell ⟨b, 0, none⟩ y0).setCell ⟨b, 1, none⟩ y1).setCell ⟨b, 2, none⟩ y2).setCell ⟨b, 3, none⟩ y3).setCell ⟨b, 4, none⟩ y4).setCell ⟨b, 5, none⟩ y5).setCell ⟨b, 6, none⟩ y6).setCell ⟨b, 7, none⟩ y7).setCell ⟨b, 8, none⟩ y8).setCell ⟨b, 9, none⟩ y9).setCell ⟨b, 10, none⟩ y10) b #[y0, y1, y2, y3, y4, y5, y6, y7, y8, y9, y10] t :=
by
  have a0 : Blk _ b #[y0, x1, x2, x3, x4, x5, x6, x7, x8, x9, x10] t := h.set 0 y0
  have a1 : Blk _ b #[y0, y1, x2, x3, x4, x5, x6, x7, x8, x9, x10] t := a0.set 1 y1
  have a2 : Blk _ b #[y0, y1, y2, x3, x4, x5, x6, x7, x8, x9, x10] t := a1.set 2 y2
  have a3 : Blk _ b #[y0, y1, y2, y3, x4, x5, x6, x7, x8, x9, x10] t := a2.set 3 y3
  have a4 : Blk _ b #[y0, y1, y2, y3, y4, x5, x6, x7, x8, x9, x10] t := a3.set 4 y4
  have a5 : Blk _ b #[y0, y1, y2, y3, y4, y5, x6, x7, x8, x9, x10] t := a4.set 5 y5
  have a6 : Blk _ b #[y0, y1, y2, y3, y4, y5, y6, x7, x8, x9, x10] t := a5.set 6 y6
  have a7 : Blk _ b #[y0, y1, y2, y3, y4, y5, y6, y7, x8, x9, x10] t := a6.set 7 y7
  have a8 : Blk _ b #[y0, y1, y2, y3, y4, y5, y6, y7, y8, x9, x10] t := a7.set 8 y8
  have a9 : Blk _ b #[y0, y1, y2, y3, y4, y5, y6, y7, y8, y9, x10] t := a8.set 9 y9
  have a10 : Blk _ b #[y0, y1, y2, y3, y4, y5, y6, y7, y8, y9, y10] t := a9.set 10 y10
  exact a10
theorem Drawn.set11 {bs : Nat} {w v : World} (h : Drawn bs w v) {b : Nat} (hp : w.heap.size ≤ b) (hb : bs < w.heap.size) (y0 y1 y2 y3 y4 y5 y6 y7 y8 y9 y10 : Value) :
    Drawn bs w (((((((((((v.setCell ⟨b, 0, none⟩ y0).setCell ⟨b, 1, none⟩ y1).setCell ⟨b, 2, none⟩ y2).setCell ⟨b, 3, none⟩ y3).setCell ⟨b, 4, none⟩ y4).setCell ⟨b, 5, none⟩ y5).setCell ⟨b, 6, none⟩ y6).setCell ⟨b, 7, none⟩ y7).setCell ⟨b, 8, none⟩ y8).setCell ⟨b, 9, none⟩ y9).setCell ⟨b, 10, none⟩ y10) :=
  ((((((((((h.set (p := ⟨b, 0, none⟩) hp hb y0).set (p := ⟨b, 1, none⟩) hp hb y1).set (p := ⟨b, 2, none⟩) hp hb y2).set (p := ⟨b, 3, none⟩) hp hb y3).set (p := ⟨b, 4, none⟩) hp hb y4).set (p := ⟨b, 5, none⟩) hp hb y5).set (p := ⟨b, 6, none⟩) hp hb y6).set (p := ⟨b, 7, none⟩) hp hb y7).set (p := ⟨b, 8, none⟩) hp hb y8).set (p := ⟨b, 9, none⟩) hp hb y9).set (p := ⟨b, 10, none⟩) hp hb y10
theorem row_set11 {w : World} {base s n : Nat} {e : TypeId} {v : Value} {xs : List Value} (h : w.ownsRow base e s v n xs) {b : Nat} (hb : b < base) (y0 y1 y2 y3 y4 y5 y6 y7 y8 y9 y10 : Value) :
    (((((((((((w.setCell ⟨b, 0, none⟩ y0).setCell ⟨b, 1, none⟩ y1).setCell ⟨b, 2, none⟩ y2).setCell ⟨b, 3, none⟩ y3).setCell ⟨b, 4, none⟩ y4).setCell ⟨b, 5, none⟩ y5).setCell ⟨b, 6, none⟩ y6).setCell ⟨b, 7, none⟩ y7).setCell ⟨b, 8, none⟩ y8).setCell ⟨b, 9, none⟩ y9).setCell ⟨b, 10, none⟩ y10).ownsRow base e s v n xs :=
  ownsRow_setCell_below (ownsRow_setCell_below (ownsRow_setCell_below (ownsRow_setCell_below (ownsRow_setCell_below (ownsRow_setCell_below (ownsRow_setCell_below (ownsRow_setCell_below (ownsRow_setCell_below (ownsRow_setCell_below (ownsRow_setCell_below h (a := (⟨b, 0, none⟩ : Addr)) hb y0) (a := (⟨b, 1, none⟩ : Addr)) hb y1) (a := (⟨b, 2, none⟩ : Addr)) hb y2) (a := (⟨b, 3, none⟩ : Addr)) hb y3) (a := (⟨b, 4, none⟩ : Addr)) hb y4) (a := (⟨b, 5, none⟩ : Addr)) hb y5) (a := (⟨b, 6, none⟩ : Addr)) hb y6) (a := (⟨b, 7, none⟩ : Addr)) hb y7) (a := (⟨b, 8, none⟩ : Addr)) hb y8) (a := (⟨b, 9, none⟩ : Addr)) hb y9) (a := (⟨b, 10, none⟩ : Addr)) hb y10
def Elev (w : World) (b : Nat) (t : TypeId) : Prop := ∃ x0 x1 x2 x3 x4 x5 x6 x7 x8 x9 x10, Blk w b #[x0, x1, x2, x3, x4, x5, x6, x7, x8, x9, x10] t
theorem Elev.alloc {w : World} {b : Nat} {t : TypeId} (h : Elev w b t) (o : Obj) : Elev (w.alloc o) b t := by
  obtain ⟨x0, x1, x2, x3, x4, x5, x6, x7, x8, x9, x10, h⟩ := h
  exact ⟨x0, x1, x2, x3, x4, x5, x6, x7, x8, x9, x10, h.alloc o⟩
theorem Elev.drawn {bs b : Nat} {t : TypeId} {w v : World} (g : Drawn bs w v) (h : Elev w b t) (hne : b ≠ bs) : Elev v b t := by
  obtain ⟨x0, x1, x2, x3, x4, x5, x6, x7, x8, x9, x10, h⟩ := h
  exact ⟨x0, x1, x2, x3, x4, x5, x6, x7, x8, x9, x10, g.blk h hne⟩
theorem Elev.other {w : World} {b : Nat} {t : TypeId} (h : Elev w b t) (p : Addr) (u : Value) (hp : b ≠ p.block) : Elev (w.setCell p u) b t := by
  obtain ⟨x0, x1, x2, x3, x4, x5, x6, x7, x8, x9, x10, h⟩ := h
  exact ⟨x0, x1, x2, x3, x4, x5, x6, x7, x8, x9, x10, h.other p u hp⟩
theorem Elev.lt {w : World} {b : Nat} {t : TypeId} (h : Elev w b t) : b < w.heap.size := by
  obtain ⟨x0, x1, x2, x3, x4, x5, x6, x7, x8, x9, x10, h⟩ := h
  exact h.lt
theorem ownsRow_other {w : World} {base : Nat} {e : TypeId} {size : Nat} {v : Value} {n : Nat} {xs : List Value} (h : w.ownsRow base e size v n xs) (p : Addr) (u : Value) (hp : ∀ k, v.ownBlock = some k → k < p.block) : (w.setCell p u).ownsRow base e size v n xs :=
  h.kept (row := some p.block) ⟨rfl, rfl, rfl, by simp, fun k _ hne => Below.heap_setCell w p u k (fun e => hne (by rw [e]))⟩ (by
    cases hv : v.ownBlock with
    | none => exact .inl rfl
    | some k => exact .inr (fun e => by
        have := hp k hv
        simp only [Option.some.injEq] at e
        omega))

set_option maxRecDepth 100000 in
set_option maxHeartbeats 16000000 in
theorem plateof_in (bs : Nat) (w : World) (hs : SeedAt bs w) :
    Calls Try.prog 20 #[.pointer (some ⟨bs, 0, none⟩)] w fun e w' => ∃ (p : Pl) (vS vC : Value), e = .returned (.agg #[.int .i64 p.s0, .int .i64 p.s1, vS, vC, .int .i64 p.ne, .int .i64 p.ed, .int .i64 p.gr, .int .i64 p.lo, .int .i64 p.hi, .int .i64 p.sh, .int .i64 p.wi]) ∧ p.Ok ∧ w'.ownsRow (w.heap.size + 1) 68 2 vS p.S.n (catC (pairC p.S.F p.S.P) p.S.n) ∧ w'.ownsRow (w.heap.size + 1) 68 2 vC p.C.n (catC (pairC p.C.F p.C.P) p.C.n) ∧ Drawn bs w w' := by
  have hbs : bs < w.heap.size := hs.choose_spec.lt
  have hA := Drawn.alloc hs (.cells #[.int .i64 0, .int .i64 0, .slice none 0 0, .slice none 0 0, .int .i64 0, .int .i64 0, .int .i64 0, .int .i64 0, .int .i64 0, .int .i64 0, .int .i64 0] 26)
  have jO : Elev _ _ _ := ⟨_, _, _, _, _, _, _, _, _, _, _, Blk.new w #[.int .i64 0, .int .i64 0, .slice none 0 0, .slice none 0 0, .int .i64 0, .int .i64 0, .int .i64 0, .int .i64 0, .int .i64 0, .int .i64 0, .int .i64 0] 26⟩
  go_enter Try.func20, Try.ntmps20
  have hbl : 0 ≤ bs := Nat.zero_le _
  go_wp2_with fail
  refine (of2_in 1 30000 1 30000 bs _ _ (by simp) hA.seed (by decide) (by decide) (by decide) (by decide)).mono ?_
  rintro e w1 ⟨a1, rfl, a1l, a1h, hd⟩
  replace jO := (jO.alloc (.cells #[.int .i64 1, .int .i64 30000] 3)).drawn hd (by omega)
  replace hA := (hA.new (.cells #[.int .i64 1, .int .i64 30000] 3)).trans hd
  clear hd
  go_wp2_with fail
  refine (of2_in 60000 100000 60000 100000 bs _ _ (by simp) hA.seed (by decide) (by decide) (by decide) (by decide)).mono ?_
  rintro e w2 ⟨a2, rfl, a2l, a2h, hd⟩
  replace jO := (jO.alloc (.cells #[.int .i64 60000, .int .i64 100000] 3)).drawn hd (by omega)
  replace hA := (hA.new (.cells #[.int .i64 60000, .int .i64 100000] 3)).trans hd
  clear hd
  go_wp2_with fail
  refine (kspan_in a1 a2 bs _ hA.seed (by omega) (by omega) (by omega)).mono ?_
  rintro e w3 ⟨s0, s1, rfl, s0l, s01, s1h, hd⟩
  replace jO := jO.drawn hd (by omega)
  replace hA := hA.trans hd
  clear hd
  replace s0l : 1 ≤ s0 := by omega
  replace s1h : s1 ≤ 100000 := by omega
  clear a1l a1h a2l a2h
  go_wp2_with fail
  refine (tableof_in 200 (by decide) bs _ hA.seed).mono ?_
  rintro e w4 ⟨S, vS, rfl, hS, jS, hd⟩
  replace jS := ownsRow_base (b1 := w.heap.size + 1) jS (by have := jO.lt; omega)
  have kS := pairs_of_row jS
  obtain ⟨aS, cS, hvS, _, _, _⟩ := kS
  subst hvS
  replace jO := jO.drawn hd (by omega)
  replace hA := hA.trans hd
  clear hd
  go_wp2_with fail
  refine (tableof_in 2000 (by decide) bs _ hA.seed).mono ?_
  rintro e w5 ⟨C, vC, rfl, hC, jC, hd⟩
  replace jC := ownsRow_base (b1 := w.heap.size + 1) jC (by have := jO.lt; omega)
  have kC := pairs_of_row jC
  obtain ⟨aC, cC, hvC, _, _, _⟩ := kC
  subst hvC
  replace jO := jO.drawn hd (by omega)
  replace jS := hd.row jS (by omega)
  replace hA := hA.trans hd
  clear hd
  go_wp2_with fail
  refine (of3_in 0 5 40 0 40 bs _ _ (by simp) hA.seed (by decide) (by decide) (by decide) (by decide) (by decide) (by decide)).mono ?_
  rintro e w6 ⟨ne, rfl, nel, neh, hd⟩
  replace jO := (jO.alloc (.cells #[.int .i64 0, .int .i64 5, .int .i64 40] 3)).drawn hd (by omega)
  replace jS := hd.row (jS.alloc (.cells #[.int .i64 0, .int .i64 5, .int .i64 40] 3)) (by omega)
  replace jC := hd.row (jC.alloc (.cells #[.int .i64 0, .int .i64 5, .int .i64 40] 3)) (by omega)
  replace hA := (hA.new (.cells #[.int .i64 0, .int .i64 5, .int .i64 40] 3)).trans hd
  clear hd
  go_wp2_with fail
  refine (from_in 0 1000000 bs _ hA.seed (by decide) (by decide) (by decide) (by decide)).mono ?_
  rintro e w7 ⟨ed, rfl, edl, edh, hd⟩
  replace edh : ed ≤ 1000000 := by omega
  replace jO := jO.drawn hd (by omega)
  replace jS := hd.row jS (by omega)
  replace jC := hd.row jC (by omega)
  replace hA := hA.trans hd
  clear hd
  go_wp2_with fail
  refine (from_in 1 1000 bs _ hA.seed (by decide) (by decide) (by decide) (by decide)).mono ?_
  rintro e w8 ⟨g, rfl, gl, gh, hd⟩
  replace gh : g ≤ 1000 := by omega
  replace jO := jO.drawn hd (by omega)
  replace jS := hd.row jS (by omega)
  replace jC := hd.row jC (by omega)
  replace hA := hA.trans hd
  clear hd
  go_wp2_with fail
  refine (of3_in 98 1 g 1 1000 bs _ _ (by simp) hA.seed (by decide) (by decide) (by decide) (by decide) (by omega) (by omega)).mono ?_
  rintro e w9 ⟨gr, rfl, grl, grh, hd⟩
  replace jO := (jO.alloc (.cells #[.int .i64 98, .int .i64 1, .int .i64 g] 3)).drawn hd (by omega)
  replace jS := hd.row (jS.alloc (.cells #[.int .i64 98, .int .i64 1, .int .i64 g] 3)) (by omega)
  replace jC := hd.row (jC.alloc (.cells #[.int .i64 98, .int .i64 1, .int .i64 g] 3)) (by omega)
  replace hA := (hA.new (.cells #[.int .i64 98, .int .i64 1, .int .i64 g] 3)).trans hd
  clear hd
  clear gl gh
  go_wp2_with fail
  refine (from_in 1 1000000 bs _ hA.seed (by decide) (by decide) (by decide) (by decide)).mono ?_
  rintro e w10 ⟨lo, rfl, lol, loh, hd⟩
  replace loh : lo ≤ 1000000 := by omega
  replace jO := jO.drawn hd (by omega)
  replace jS := hd.row jS (by omega)
  replace jC := hd.row jC (by omega)
  replace hA := hA.trans hd
  clear hd
  go_wp2_with fail
  refine (below_in 400 bs _ hA.seed (by decide)).mono ?_
  rintro e w11 ⟨sh, rfl, shl, shh, hd⟩
  replace shh : sh ≤ 400 := by omega
  replace jO := jO.drawn hd (by omega)
  replace jS := hd.row jS (by omega)
  replace jC := hd.row jC (by omega)
  replace hA := hA.trans hd
  clear hd
  go_wp2_with fail
  refine (from_in 0 1000000 bs _ hA.seed (by decide) (by decide) (by decide) (by decide)).mono ?_
  rintro e w12 ⟨wv, rfl, wvl, wvh, hd⟩
  replace wvh : wv ≤ 1000000 := by omega
  replace jO := jO.drawn hd (by omega)
  replace jS := hd.row jS (by omega)
  replace jC := hd.row jC (by omega)
  replace hA := hA.trans hd
  clear hd
  go_wp2_with fail
  refine (of3_in 0 wv 1000000 0 1000000 bs _ _ (by simp) hA.seed (by decide) (by decide) (by omega) (by omega) (by decide) (by decide)).mono ?_
  rintro e w13 ⟨wi, rfl, wil, wih, hd⟩
  replace jO := (jO.alloc (.cells #[.int .i64 0, .int .i64 wv, .int .i64 1000000] 3)).drawn hd (by omega)
  replace jS := hd.row (jS.alloc (.cells #[.int .i64 0, .int .i64 wv, .int .i64 1000000] 3)) (by omega)
  replace jC := hd.row (jC.alloc (.cells #[.int .i64 0, .int .i64 wv, .int .i64 1000000] 3)) (by omega)
  replace hA := (hA.new (.cells #[.int .i64 0, .int .i64 wv, .int .i64 1000000] 3)).trans hd
  clear hd
  clear wvl wvh
  have zO := jO.lt
  have jP := Blk.new w13 #[.int .i64 s0, .int .i64 s1, (.slice aS S.n cS), (.slice aC C.n cC), .int .i64 ne, .int .i64 ed, .int .i64 gr, .int .i64 lo, .int .i64 0, .int .i64 sh, .int .i64 wi] 26
  replace hA := hA.new (.cells #[.int .i64 s0, .int .i64 s1, (.slice aS S.n cS), (.slice aC C.n cC), .int .i64 ne, .int .i64 ed, .int .i64 gr, .int .i64 lo, .int .i64 0, .int .i64 sh, .int .i64 wi] 26)
  replace jO := jO.alloc (.cells #[.int .i64 s0, .int .i64 s1, (.slice aS S.n cS), (.slice aC C.n cC), .int .i64 ne, .int .i64 ed, .int .i64 gr, .int .i64 lo, .int .i64 0, .int .i64 sh, .int .i64 wi] 26)
  have hrS : ∀ k, (Value.slice aS S.n cS).ownBlock = some k → k < w13.heap.size := fun k e => (jS.lt k e).2
  have hrC : ∀ k, (Value.slice aC C.n cC).ownBlock = some k → k < w13.heap.size := fun k e => (jC.lt k e).2
  replace jS := jS.alloc (.cells #[.int .i64 s0, .int .i64 s1, (.slice aS S.n cS), (.slice aC C.n cC), .int .i64 ne, .int .i64 ed, .int .i64 gr, .int .i64 lo, .int .i64 0, .int .i64 sh, .int .i64 wi] 26)
  replace jC := jC.alloc (.cells #[.int .i64 s0, .int .i64 s1, (.slice aS S.n cS), (.slice aC C.n cC), .int .i64 ne, .int .i64 ed, .int .i64 gr, .int .i64 lo, .int .i64 0, .int .i64 sh, .int .i64 wi] 26)
  go_upto_region 2 with fail
  obtain ⟨bP, hbP⟩ : ∃ b, w13.heap.size = b := ⟨_, rfl⟩
  rw [hbP] at zO jP hrS hrC
  (try rw [hbP])
  clear hbP
  generalize w13.alloc (.cells #[.int .i64 s0, .int .i64 s1, (.slice aS S.n cS), (.slice aC C.n cC), .int .i64 ne, .int .i64 ed, .int .i64 gr, .int .i64 lo, .int .i64 0, .int .i64 sh, .int .i64 wi] 26) = V at jP hA jO jS jC ⊢
  (
 refine wp_region_held_drew (S := (fun w' => (∃ h : Int, Blk w' bP #[.int .i64 s0, .int .i64 s1, (.slice aS S.n cS), (.slice aC C.n cC), .int .i64 ne, .int .i64 ed, .int .i64 gr, .int .i64 lo, .int .i64 h, .int .i64 sh, .int .i64 wi] 26) ∧ Elev w' w.heap.size 26 ∧ w'.ownsRow (w.heap.size + 1) 68 2 (.slice aS S.n cS) S.n (catC (pairC S.F S.P) S.n) ∧ w'.ownsRow (w.heap.size + 1) 68 2 (.slice aC C.n cC) C.n (catC (pairC C.F C.P) C.n) ∧ Drawn bs w w')) (by kernel_rfl) ?_ (fun hH => ?_)
 · (try dsimp only); (exact ⟨⟨_, jP.drew⟩, jO, jS, jC, hA.trans (Drawn.drew hA.seed)⟩)
 refine tkY 0 (some 36) ?_ ?_ ?_
 rotate_left
 · intro w _; go_simp; (try with_reducible rfl)
 (try simp only [cq])
 refine tkY 1 (some 37) ?_ ?_ ?_
 rotate_left
 · intro w hS0; (try dsimp only at hS0); obtain ⟨⟨h, kP⟩, _⟩ := hS0; obtain ⟨c0, c1, c2, c3, c4, c5, c6, c7, c8, c9, c10⟩ := kP.c11; have y1 := kP.lt;go_simp; (try with_reducible rfl)
 (try simp only [cq])
 refine tkY 2 (some 38) ?_ ?_ ?_
 rotate_left
 · intro w hS0; (try dsimp only at hS0); obtain ⟨⟨h, kP⟩, _⟩ := hS0; obtain ⟨c0, c1, c2, c3, c4, c5, c6, c7, c8, c9, c10⟩ := kP.c11; have y1 := kP.lt;go_simp; (try with_reducible rfl)
 (try simp only [cq])
 refine tkY 3 (some 39) ?_ ?_ ?_
 rotate_left
 · intro w _; go_simp; (try with_reducible rfl)
 (try simp only [cq])
 refine tkY 4 (some 40) ?_ ?_ ?_
 rotate_left
 · intro w hS0; (try dsimp only at hS0); obtain ⟨⟨h, kP⟩, _⟩ := hS0; obtain ⟨c0, c1, c2, c3, c4, c5, c6, c7, c8, c9, c10⟩ := kP.c11; have y1 := kP.lt;go_simp; (try with_reducible rfl)
 (try simp only [cq])
 refine tkY 5 (some 41) ?_ ?_ ?_
 rotate_left
 · intro w hS0; (try dsimp only at hS0); obtain ⟨⟨h, kP⟩, _⟩ := hS0; obtain ⟨c0, c1, c2, c3, c4, c5, c6, c7, c8, c9, c10⟩ := kP.c11; have y1 := kP.lt;go_simp; (try with_reducible rfl)
 (try simp only [cq])
 refine wpAnyH_ready (rs := [6]) (by kernel_rfl) (by simp) ?_
 refine arc1 (some 42) fun K hK => ?_
 go_simp
 (refine (from_in lo 2000000 bs _ hH.2.2.2.2.seed (by omega) (by omega) (by omega) (by omega)).mono ?_; rintro e w' ⟨t, rfl, tl, th, hd⟩; replace th : t ≤ 2000000 := (by omega))
 refine hK.out _ _ ?_ ?_
 · (exact ⟨hH.1.elim fun h k => ⟨h, hd.blk k (by omega)⟩, hH.2.1.drawn hd (by omega), hd.row hH.2.2.1 (by omega), hd.row hH.2.2.2.1 (by omega), hH.2.2.2.2.trans hd⟩)
 (try clear hH); (try clear hd)
 intro hH
 clear hK K
 (try simp only [cq])
 refine wpAnyH_ready (rs := [7]) (by kernel_rfl) (by simp) ?_
 refine arc1 (some 43) fun K hK => ?_
 have hpre := hH
 go_simp
 refine hK.out _ _ ?_ ?_
 · exact ⟨hH.1.elim fun h k => ⟨h, k.alloc _⟩, hH.2.1.alloc _, hH.2.2.1.alloc _, hH.2.2.2.1.alloc _, hH.2.2.2.2.new _⟩
 (try clear hH); (try clear hd)
 intro hH
 clear hK K
 (try simp only [cq])
 refine wpAnyH_ready (rs := [8]) (by kernel_rfl) (by simp) ?_
 refine arc1 (some 44) fun K hK => ?_
 go_simp
 (refine (of2_in lo t lo 2000000 bs _ _ (by simp) hpre.2.2.2.2.seed (by omega) (by omega) (by omega) (by omega)).mono ?_; rintro e w' ⟨hv, rfl, hvl, hvh, hd⟩)
 refine hK.out _ _ ?_ ?_
 · (exact ⟨hH.1.elim fun h k => ⟨h, hd.blk k (by omega)⟩, hH.2.1.drawn hd (by omega), hd.row hH.2.2.1 (by omega), hd.row hH.2.2.2.1 (by omega), hH.2.2.2.2.trans hd⟩)
 (try clear hH); (try clear hd)
 intro hH
 clear hK K
 (try simp only [cq])
 refine tkY 9 (some 45) ?_ ?_ ?_
 rotate_left
 · intro w hS0; (try dsimp only at hS0); obtain ⟨⟨h, kP⟩, _⟩ := hS0; obtain ⟨c0, c1, c2, c3, c4, c5, c6, c7, c8, c9, c10⟩ := kP.c11; have y1 := kP.lt;go_simp; (try with_reducible rfl)
 (try simp only [cq])
 refine wpAnyH_ready (rs := [10]) (by kernel_rfl) (by simp) ?_
 refine arc1 none fun K hK => ?_
 obtain ⟨⟨h, kP⟩, h2, h3, h4, h5⟩ := hH
 obtain ⟨c0, c1, c2, c3, c4, c5, c6, c7, c8, c9, c10⟩ := kP.c11
 have fr8 := kP.free 8
 have zR := kP.lt
 have HS := Lib.hid (show Blk _ bP #[.int .i64 s0, .int .i64 s1, (.slice aS S.n cS), (.slice aC C.n cC), .int .i64 ne, .int .i64 ed, .int .i64 gr, .int .i64 lo, .int .i64 hv, .int .i64 sh, .int .i64 wi] _ from kP.set 8 (.int .i64 hv))
 have HD := Lib.hid (h5.set (p := ⟨bP, 8, none⟩) (by simp; omega) hbs (.int .i64 hv))
 go_simp
 refine hK.out _ _ ?_ ?_
 · exact ⟨⟨hv, HS.out⟩, h2.other _ _ (by simp; omega), ownsRow_other h3 _ _ (fun k e => by have := hrS k e; simpa using this), ownsRow_other h4 _ _ (fun k e => by have := hrC k e; simpa using this), HD.out⟩
 (try clear hH); (try clear hd)
 intro hH
 clear hK K
 (try simp only [cq])
 refine wpAnyH_done (by kernel_rfl) ?_ _
 (try dsimp only [Act.put])
 (try simp only [cq])
 clear c0 c1 c2 c3 c4 c5 c6 c7 c8 c9 c10 fr8 zR kP h2 h3 h4 h5
 obtain ⟨_, ⟨x0, x1, x2, x3, x4, x5, x6, x7, x8, x9, x10, hR⟩, jS, jC, hA⟩ := hH
 have HQ := Lib.hid (hR.set11 (.int .i64 s0) (.int .i64 s1) (.slice aS S.n cS) (.slice aC C.n cC) (.int .i64 ne) (.int .i64 ed) (.int .i64 gr) (.int .i64 lo) (.int .i64 hv) (.int .i64 sh) (.int .i64 wi)).c11
 have HD2 := Lib.hid (hA.set11 (b := w.heap.size) (Nat.le_refl _) hbs (.int .i64 s0) (.int .i64 s1) (.slice aS S.n cS) (.slice aC C.n cC) (.int .i64 ne) (.int .i64 ed) (.int .i64 gr) (.int .i64 lo) (.int .i64 hv) (.int .i64 sh) (.int .i64 wi))
 have HR1 := Lib.hid (row_set11 jS (b := w.heap.size) (by omega) (.int .i64 s0) (.int .i64 s1) (.slice aS S.n cS) (.slice aC C.n cC) (.int .i64 ne) (.int .i64 ed) (.int .i64 gr) (.int .i64 lo) (.int .i64 hv) (.int .i64 sh) (.int .i64 wi))
 have HR2 := Lib.hid (row_set11 jC (b := w.heap.size) (by omega) (.int .i64 s0) (.int .i64 s1) (.slice aS S.n cS) (.slice aC C.n cC) (.int .i64 ne) (.int .i64 ed) (.int .i64 gr) (.int .i64 lo) (.int .i64 hv) (.int .i64 sh) (.int .i64 wi))
 obtain ⟨r0, r1, r2, r3, r4, r5, r6, r7, r8, r9, r10⟩ := hR.c11
 obtain ⟨c0, c1, c2, c3, c4, c5, c6, c7, c8, c9, c10⟩ := HS.out.c11
 have g0 := hR.free 0
 have g1 := hR.free 1
 have g2 := hR.free 2
 have g3 := hR.free 3
 have g4 := hR.free 4
 have g5 := hR.free 5
 have g6 := hR.free 6
 have g7 := hR.free 7
 have g8 := hR.free 8
 have g9 := hR.free 9
 have g10 := hR.free 10
 have zR := hR.lt
 have zP := HS.out.lt
 have HK : Hid (Pl.Ok ⟨s0, s1, S, C, ne, ed, gr, lo, hv, sh, wi⟩) := ⟨s0l, s01, s1h, hS, hC, nel, by simp only; omega, edl, edh, grl, grh, lol, hvl, by simp only; omega, shl, by simp only; omega, wil, wih⟩
 generalize w'.setCell ⟨bP, 8, none⟩ (.int .i64 hv) = W at HQ HD2 HR1 HR2 r0 r1 r2 r3 r4 r5 r6 r7 r8 r9 r10 c0 c1 c2 c3 c4 c5 c6 c7 c8 c9 c10 g0 g1 g2 g3 g4 g5 g6 g7 g8 g9 g10 zR zP ⊢
 clear hR jS jC hA HS HD
 go_wp2
 obtain ⟨z0, z1, z2, z3, z4, z5, z6, z7, z8, z9, z10⟩ := HQ.out
 exact bodyPost_ret (v := .agg #[.int .i64 s0, .int .i64 s1, (.slice aS S.n cS), (.slice aC C.n cC), .int .i64 ne, .int .i64 ed, .int .i64 gr, .int .i64 lo, .int .i64 hv, .int .i64 sh, .int .i64 wi]) (by simp [results, Try.results20, go_sem, z0, z1, z2, z3, z4, z5, z6, z7, z8, z9, z10]) rfl ⟨⟨s0, s1, S, C, ne, ed, gr, lo, hv, sh, wi⟩, _, _, rfl, HK.out, HR1.out, HR2.out, HD2.out⟩ )
end Go.Proofs.Ytkkljbbgaogifaa

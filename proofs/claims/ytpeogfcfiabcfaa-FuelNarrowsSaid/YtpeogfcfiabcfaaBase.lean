/-
  Blocks of eight cells; an allocation within a region. Speaks of no function.
-/
import Derived.Test.YtpeogfcfiabcfaaChk
import Derived.Test.YtpeogfcfiabcfaaBlk
set_option linter.unusedVariables false
set_option linter.unusedSimpArgs false
namespace Go.Proofs.Ytpeogfcfiabcfaa
open Go.RowKit

theorem Blk.c6 {w : World} {b : Nat} {x0 x1 x2 x3 x4 x5 : Value} {t : TypeId} (h : Blk w b #[x0, x1, x2, x3, x4, x5] t) : w.cell? ⟨b, 0, none⟩ = some x0 ∧ w.cell? ⟨b, 1, none⟩ = some x1 ∧ w.cell? ⟨b, 2, none⟩ = some x2 ∧ w.cell? ⟨b, 3, none⟩ = some x3 ∧ w.cell? ⟨b, 4, none⟩ = some x4 ∧ w.cell? ⟨b, 5, none⟩ = some x5 :=
  ⟨h.cell 0 rfl, h.cell 1 rfl, h.cell 2 rfl, h.cell 3 rfl, h.cell 4 rfl, h.cell 5 rfl⟩

theorem Eight.lt {w : World} {b : Nat} {t : TypeId} (h : Eight w b t) : b < w.heap.size := by
  obtain ⟨x0, x1, x2, x3, x4, x5, x6, x7, h⟩ := h
  exact h.lt
theorem Eight.other {w : World} {b : Nat} {t : TypeId} (h : Eight w b t) (p : Addr) (u : Value) (hp : b ≠ p.block) : Eight (w.setCell p u) b t := by
  obtain ⟨x0, x1, x2, x3, x4, x5, x6, x7, h⟩ := h
  exact ⟨x0, x1, x2, x3, x4, x5, x6, x7, h.other p u hp⟩
theorem Blk.set8 {w : World} {b : Nat} {x0 x1 x2 x3 x4 x5 x6 x7 : Value} {t : TypeId} (h : Blk w b #[x0, x1, x2, x3, x4, x5, x6, x7] t) (y0 y1 y2 y3 y4 y5 y6 y7 : Value) :
    Blk ((((((((w.setCell ⟨b, 0, none⟩ y0).setCell ⟨b, 1, none⟩ y1).setCell ⟨b, 2, none⟩ y2).setCell ⟨b, 3, none⟩ y3).setCell ⟨b, 4, none⟩ y4).setCell ⟨b, 5, none⟩ y5).setCell ⟨b, 6, none⟩ y6).setCell ⟨b, 7, none⟩ y7) b #[y0, y1, y2, y3, y4, y5, y6, y7] t :=
by
  have a0 : Blk _ b #[y0, x1, x2, x3, x4, x5, x6, x7] t := h.set 0 y0
  have a1 : Blk _ b #[y0, y1, x2, x3, x4, x5, x6, x7] t := a0.set 1 y1
  have a2 : Blk _ b #[y0, y1, y2, x3, x4, x5, x6, x7] t := a1.set 2 y2
  have a3 : Blk _ b #[y0, y1, y2, y3, x4, x5, x6, x7] t := a2.set 3 y3
  have a4 : Blk _ b #[y0, y1, y2, y3, y4, x5, x6, x7] t := a3.set 4 y4
  have a5 : Blk _ b #[y0, y1, y2, y3, y4, y5, x6, x7] t := a4.set 5 y5
  have a6 : Blk _ b #[y0, y1, y2, y3, y4, y5, y6, x7] t := a5.set 6 y6
  exact a6.set 7 y7
def Blk.wld {w : World} {b : Nat} {C : Array Value} {t : TypeId} (_ : Blk w b C t) : World := w

theorem out_alloc {S : World → Prop} {K R : Act → World → Prop} (hK : Shut (∀ a w, S w → (S w → R a w) → K a w)) (a : Act) (W : World) (C : Array Value) (t : TypeId) (hS : S (W.alloc (.cells C t)))
    (h : S (W.alloc (.cells C t)) → Blk (W.alloc (.cells C t)) W.heap.size C t → R a (W.alloc (.cells C t))) : K a (W.alloc (.cells C t)) := hK.out _ _ hS (fun hs => h hs (Blk.new _ _ _))

theorem out_alloc_drew {S : World → Prop} {K R : Act → World → Prop} (hK : Shut (∀ a w, S w → (S w → R a w) → K a w)) (a : Act) (W : World) (C : Array Value) (t : TypeId) (hS : S (W.alloc (.cells C t)).drew)
    (h : S (W.alloc (.cells C t)).drew → Blk (W.alloc (.cells C t)).drew W.heap.size C t → R a (W.alloc (.cells C t)).drew) : K a (W.alloc (.cells C t)).drew := hK.out _ _ hS (fun hs => h hs (Blk.new _ _ _).drew)

theorem oA {S : World → Prop} {K R : Act → World → Prop} {a : Act} {W : World} {C : Array Value} {t : TypeId} (hK : Shut (∀ a w, S w → (S w → R a w) → K a w)) (hS : S (W.alloc (.cells C t)))
    (h : S (W.alloc (.cells C t)) → Blk (W.alloc (.cells C t)) W.heap.size C t → R a (W.alloc (.cells C t))) : K a (W.alloc (.cells C t)) := out_alloc hK a W C t hS h
theorem oD {S : World → Prop} {K R : Act → World → Prop} {a : Act} {W : World} {C : Array Value} {t : TypeId} (hK : Shut (∀ a w, S w → (S w → R a w) → K a w)) (hS : S (W.alloc (.cells C t)).drew)
    (h : S (W.alloc (.cells C t)).drew → Blk (W.alloc (.cells C t)).drew W.heap.size C t → R a (W.alloc (.cells C t)).drew) : K a (W.alloc (.cells C t)).drew := out_alloc_drew hK a W C t hS h

theorem Blk.cell1 {w : World} {b : Nat} {x : Value} {t : TypeId} (h : Blk w b #[x] t) : w.cell? ⟨b, 0, none⟩ = some x := h.cell 0 rfl
theorem Blk.set6 {w : World} {b : Nat} {x0 x1 x2 x3 x4 x5 : Value} {t : TypeId} (h : Blk w b #[x0, x1, x2, x3, x4, x5] t) (u0 u1 u2 u3 u4 u5 : Value) :
    Blk ((((((w.setCell ⟨b, 0, none⟩ u0).setCell ⟨b, 1, none⟩ u1).setCell ⟨b, 2, none⟩ u2).setCell ⟨b, 3, none⟩ u3).setCell ⟨b, 4, none⟩ u4).setCell ⟨b, 5, none⟩ u5) b #[u0, u1, u2, u3, u4, u5] t :=
  (((((h.set 0 u0).set 1 u1).set 2 u2).set 3 u3).set 4 u4).set 5 u5

theorem Blk.c4 {w : World} {b : Nat} {x0 x1 x2 x3 : Value} {t : TypeId} (h : Blk w b #[x0, x1, x2, x3] t) : w.cell? ⟨b, 0, none⟩ = some x0 ∧ w.cell? ⟨b, 1, none⟩ = some x1 ∧ w.cell? ⟨b, 2, none⟩ = some x2 ∧ w.cell? ⟨b, 3, none⟩ = some x3 := ⟨h.cell 0 rfl, h.cell 1 rfl, h.cell 2 rfl, h.cell 3 rfl⟩
theorem Blk.set4 {w : World} {b : Nat} {x0 x1 x2 x3 : Value} {t : TypeId} (h : Blk w b #[x0, x1, x2, x3] t) (y0 y1 y2 y3 : Value) :
    Blk ((((w.setCell ⟨b, 0, none⟩ y0).setCell ⟨b, 1, none⟩ y1).setCell ⟨b, 2, none⟩ y2).setCell ⟨b, 3, none⟩ y3) b #[y0, y1, y2, y3] t := by
  have a0 : Blk _ b #[y0, x1, x2, x3] t := h.set 0 y0
  have a1 : Blk _ b #[y0, y1, x2, x3] t := a0.set 1 y1
  have a2 : Blk _ b #[y0, y1, y2, x3] t := a1.set 2 y2
  exact a2.set 3 y3
theorem Blk.other4 {w : World} {b : Nat} {C : Array Value} {t : TypeId} (h : Blk w b C t) {c : Nat} (hp : b ≠ c) (y0 y1 y2 y3 : Value) :
    Blk ((((w.setCell ⟨c, 0, none⟩ y0).setCell ⟨c, 1, none⟩ y1).setCell ⟨c, 2, none⟩ y2).setCell ⟨c, 3, none⟩ y3) b C t :=
  (((h.other _ _ hp).other _ _ hp).other _ _ hp).other _ _ hp
theorem Blk.other8 {w : World} {b : Nat} {C : Array Value} {t : TypeId} (h : Blk w b C t) {c : Nat} (hp : b ≠ c) (y0 y1 y2 y3 y4 y5 y6 y7 : Value) :
    Blk ((((((((w.setCell ⟨c, 0, none⟩ y0).setCell ⟨c, 1, none⟩ y1).setCell ⟨c, 2, none⟩ y2).setCell ⟨c, 3, none⟩ y3).setCell ⟨c, 4, none⟩ y4).setCell ⟨c, 5, none⟩ y5).setCell ⟨c, 6, none⟩ y6).setCell ⟨c, 7, none⟩ y7) b C t :=
  (((((((h.other _ _ hp).other _ _ hp).other _ _ hp).other _ _ hp).other _ _ hp).other _ _ hp).other _ _ hp).other _ _ hp
end Go.Proofs.Ytpeogfcfiabcfaa

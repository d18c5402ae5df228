/-
  Whole blocks of cells in memory: a block that is new, behind stores, allocations, draws and calls. Speaks of no program.
-/
import Derived.OneCell
import Derived.WalkKit
set_option linter.unusedVariables false
set_option linter.unusedSimpArgs false
namespace Go.Proofs.Ytpeogfcfiabcfaa
open Go.RowKit

def Blk (w : World) (b : Nat) (C : Array Value) (t : TypeId) : Prop := w.heap[b]? = some (.cells C t (0, 0))

theorem Blk.lt {w : World} {b : Nat} {C : Array Value} {t : TypeId} (h : Blk w b C t) : b < w.heap.size := lt_of_block h

theorem Blk.new (w : World) (C : Array Value) (t : TypeId) : Blk (w.alloc (.cells C t)) w.heap.size C t := by
  show (w.heap.push _)[w.heap.size]? = _
  simp

theorem Blk.alloc {w : World} {b : Nat} {C : Array Value} {t : TypeId} (h : Blk w b C t) (o : Obj) : Blk (w.alloc o) b C t :=
  (Below.heap_alloc w o b h.lt).trans h

theorem Blk.drew {w : World} {b : Nat} {C : Array Value} {t : TypeId} (h : Blk w b C t) : Blk w.drew b C t := h

theorem Blk.below {B : Nat} {w w' : World} {b : Nat} {C : Array Value} {t : TypeId} (h : Blk w b C t) (hb : Below B w w') (hB : b < B) : Blk w' b C t := (hb.block b hB).trans h

theorem Blk.call {w w' : World} {b : Nat} {C : Array Value} {t : TypeId} (h : Blk w b C t) (hb : Below w.heap.size w w') : Blk w' b C t := h.below hb h.lt

theorem Blk.other {w : World} {b : Nat} {C : Array Value} {t : TypeId} (h : Blk w b C t) (p : Addr) (u : Value) (hp : b ≠ p.block) : Blk (w.setCell p u) b C t :=
  (Below.heap_setCell w p u b hp).trans h

theorem Blk.set {w : World} {b : Nat} {C : Array Value} {t : TypeId} (h : Blk w b C t) (j : Nat) (u : Value) : Blk (w.setCell ⟨b, j, none⟩ u) b (C.setIfInBounds j u) t := by
  have hlt := h.lt
  have h' : w.heap[b] = .cells C t (0, 0) := by
    have : w.heap[b]? = some (.cells C t (0, 0)) := h
    simpa [Array.getElem?_eq_getElem hlt] using this
  show (w.heap.modify b _)[b]? = _
  rw [Array.getElem?_eq_getElem (by simpa using hlt), Array.getElem_modify_self, h']
  rfl

theorem Blk.cell {w : World} {b : Nat} {C : Array Value} {t : TypeId} (h : Blk w b C t) (j : Nat) {v : Value} (hj : C[j]? = some v) : w.cell? ⟨b, j, none⟩ = some v := by
  have h' : w.heap[b]? = some (.cells C t (0, 0)) := h
  simp [World.cell?, h', hj]

theorem Blk.free {w : World} {b : Nat} {C : Array Value} {t : TypeId} (h : Blk w b C t) (j : Nat) : w.frozen? ⟨b, j, none⟩ = false := by
  have h' : w.heap[b]? = some (.cells C t (0, 0)) := h
  simp [World.frozen?, h']

theorem Blk.eq {w : World} {b : Nat} {C C' : Array Value} {t : TypeId} (h : Blk w b C t) (e : C = C') : Blk w b C' t := e ▸ h

theorem Blk.c2 {w : World} {b : Nat} {x y : Value} {t : TypeId} (h : Blk w b #[x, y] t) : w.cell? ⟨b, 0, none⟩ = some x ∧ w.cell? ⟨b, 1, none⟩ = some y := ⟨h.cell 0 rfl, h.cell 1 rfl⟩
theorem Blk.c8 {w : World} {b : Nat} {x0 x1 x2 x3 x4 x5 x6 x7 : Value} {t : TypeId} (h : Blk w b #[x0, x1, x2, x3, x4, x5, x6, x7] t) : w.cell? ⟨b, 0, none⟩ = some x0 ∧ w.cell? ⟨b, 1, none⟩ = some x1 ∧ w.cell? ⟨b, 2, none⟩ = some x2 ∧ w.cell? ⟨b, 3, none⟩ = some x3 ∧ w.cell? ⟨b, 4, none⟩ = some x4 ∧ w.cell? ⟨b, 5, none⟩ = some x5 ∧ w.cell? ⟨b, 6, none⟩ = some x6 ∧ w.cell? ⟨b, 7, none⟩ = some x7 :=
  ⟨h.cell 0 rfl, h.cell 1 rfl, h.cell 2 rfl, h.cell 3 rfl, h.cell 4 rfl, h.cell 5 rfl, h.cell 6 rfl, h.cell 7 rfl⟩
def Two (w : World) (b : Nat) (t : TypeId) : Prop := ∃ x y, Blk w b #[x, y] t
theorem Two.call {w w' : World} {b : Nat} {t : TypeId} (h : Two w b t) (hb : Below w.heap.size w w') : Two w' b t := by
  obtain ⟨x, y, h⟩ := h
  exact ⟨x, y, h.call hb⟩
theorem Two.alloc {w : World} {b : Nat} {t : TypeId} (h : Two w b t) (o : Obj) : Two (w.alloc o) b t := by
  obtain ⟨x, y, h⟩ := h
  exact ⟨x, y, h.alloc o⟩
theorem Two.set {w : World} {b : Nat} {t : TypeId} (h : Two w b t) (u v : Value) : Blk ((w.setCell ⟨b, 0, none⟩ u).setCell ⟨b, 1, none⟩ v) b #[u, v] t := by
  obtain ⟨x, y, h⟩ := h
  exact (h.set 0 u).set 1 v
theorem Two.put {w : World} {b : Nat} {t : TypeId} (h : Two w b t) (u v : Value) : Two ((w.setCell ⟨b, 0, none⟩ u).setCell ⟨b, 1, none⟩ v) b t := ⟨u, v, h.set u v⟩
def Eight (w : World) (b : Nat) (t : TypeId) : Prop := ∃ x0 x1 x2 x3 x4 x5 x6 x7, Blk w b #[x0, x1, x2, x3, x4, x5, x6, x7] t
theorem Eight.call {w w' : World} {b : Nat} {t : TypeId} (h : Eight w b t) (hb : Below w.heap.size w w') : Eight w' b t := by
  obtain ⟨x0, x1, x2, x3, x4, x5, x6, x7, h⟩ := h
  exact ⟨x0, x1, x2, x3, x4, x5, x6, x7, h.call hb⟩
theorem Eight.alloc {w : World} {b : Nat} {t : TypeId} (h : Eight w b t) (o : Obj) : Eight (w.alloc o) b t := by
  obtain ⟨x0, x1, x2, x3, x4, x5, x6, x7, h⟩ := h
  exact ⟨x0, x1, x2, x3, x4, x5, x6, x7, h.alloc o⟩

theorem Blk.new1 (w : World) (o : Obj) (C : Array Value) (t : TypeId) : Blk ((w.alloc o).alloc (.cells C t)) (w.heap.size + 1) C t := by
  simpa using Blk.new (w.alloc o) C t
theorem Blk.new2 (w : World) (o o2 : Obj) (C : Array Value) (t : TypeId) : Blk (((w.alloc o).alloc o2).alloc (.cells C t)) (w.heap.size + 1 + 1) C t := by
  simpa using Blk.new ((w.alloc o).alloc o2) C t
theorem Blk.new3 (w : World) (o o2 o3 : Obj) (C : Array Value) (t : TypeId) : Blk ((((w.alloc o).alloc o2).alloc o3).alloc (.cells C t)) (w.heap.size + 1 + 1 + 1) C t := by
  simpa using Blk.new (((w.alloc o).alloc o2).alloc o3) C t

theorem below_set {B : Nat} {w W : World} (h : Below B w W) {p : Addr} (hp : B ≤ p.block) (u : Value) : Below B w (W.setCell p u) := h.setCell hp u
end Go.Proofs.Ytpeogfcfiabcfaa

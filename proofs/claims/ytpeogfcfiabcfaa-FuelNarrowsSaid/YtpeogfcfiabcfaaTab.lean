/-
  Lists of numbers, spans, moves and accounts in memory, and as records.
-/
import Derived.Test.YtpeogfcfiabcfaaBase
set_option linter.unusedVariables false
set_option linter.unusedSimpArgs false
namespace Go.Proofs.Ytpeogfcfiabcfaa
open Go.RowKit

def LAt (w : World) (v : Value) (n s : Nat) (C : Nat → List Value) : Prop :=
  ∃ a cap, v = .slice a n cap ∧ n ≤ cap ∧ cap ≤ 9223372036854775807 ∧ (0 < n → ∃ b o, a = some ⟨b, o, none⟩ ∧ ∀ i j u, i < n → (C i)[j]? = some u → w.cell? ⟨b, o + i * s + j, none⟩ = some u)
theorem LAt.later {w w' : World} {v : Value} {n s : Nat} {C : Nat → List Value} (h : LAt w v n s C) (hb : Below w.heap.size w w') : LAt w' v n s C := by
  obtain ⟨a, cap, hv, h1, h2, h3⟩ := h
  refine ⟨a, cap, hv, h1, h2, fun h0 => ?_⟩
  obtain ⟨b, o, ha, hc⟩ := h3 h0
  exact ⟨b, o, ha, fun i j u hi hu => cell_later hb (hc i j u hi hu)⟩
theorem LAt.below {B : Nat} {w v w' : World} {x : Value} {n s : Nat} {C : Nat → List Value} (h : LAt w x n s C) (hb : Below B w w') (hB : w.heap.size ≤ B) : LAt w' x n s C := h.later (hb.mono hB)
theorem LAt.nil (w : World) (s : Nat) (C : Nat → List Value) : LAt w (.slice none 0 0) 0 s C := ⟨none, 0, rfl, Nat.le_refl _, by omega, fun h => by omega⟩
theorem LAt.congr {w : World} {v : Value} {n s : Nat} {C D : Nat → List Value} (h : LAt w v n s C) (e : ∀ i, i < n → D i = C i) : LAt w v n s D := by
  obtain ⟨a, cap, hv, h1, h2, h3⟩ := h
  refine ⟨a, cap, hv, h1, h2, fun h0 => ?_⟩
  obtain ⟨b, o, ha, hc⟩ := h3 h0
  exact ⟨b, o, ha, fun i j u hi hu => hc i j u hi (by rw [← e i hi]; exact hu)⟩
def AtC (w : World) (b o n s : Nat) (C : Nat → List Value) : Prop := ∀ i j u, i < n → (C i)[j]? = some u → w.cell? ⟨b, o + i * s + j, none⟩ = some u
theorem AtC.c1 {w : World} {b o n : Nat} {C : Nat → List Value} (h : AtC w b o n 1 C) {i : Nat} (hi : i < n) {x0 : Value} (e : C i = [x0]) : w.cell? ⟨b, o + i, none⟩ = some x0 := by
  have q := h i 0 x0 hi (by rw [e]; rfl)
  simpa using q
theorem AtC.c2 {w : World} {b o n : Nat} {C : Nat → List Value} (h : AtC w b o n 2 C) {i : Nat} (hi : i < n) {x0 x1 : Value} (e : C i = [x0, x1]) : w.cell? ⟨b, o + i * 2, none⟩ = some x0 ∧ w.cell? ⟨b, o + i * 2 + 1, none⟩ = some x1 :=
  ⟨h i 0 x0 hi (by rw [e]; rfl), h i 1 x1 hi (by rw [e]; rfl)⟩
theorem AtC.c3 {w : World} {b o n : Nat} {C : Nat → List Value} (h : AtC w b o n 3 C) {i : Nat} (hi : i < n) {x0 x1 x2 : Value} (e : C i = [x0, x1, x2]) : w.cell? ⟨b, o + i * 3, none⟩ = some x0 ∧ w.cell? ⟨b, o + i * 3 + 1, none⟩ = some x1 ∧ w.cell? ⟨b, o + i * 3 + 2, none⟩ = some x2 :=
  ⟨h i 0 x0 hi (by rw [e]; rfl), h i 1 x1 hi (by rw [e]; rfl), h i 2 x2 hi (by rw [e]; rfl)⟩
theorem AtC.c4 {w : World} {b o n : Nat} {C : Nat → List Value} (h : AtC w b o n 4 C) {i : Nat} (hi : i < n) {x0 x1 x2 x3 : Value} (e : C i = [x0, x1, x2, x3]) : w.cell? ⟨b, o + i * 4, none⟩ = some x0 ∧ w.cell? ⟨b, o + i * 4 + 1, none⟩ = some x1 ∧ w.cell? ⟨b, o + i * 4 + 2, none⟩ = some x2 ∧ w.cell? ⟨b, o + i * 4 + 3, none⟩ = some x3 :=
  ⟨h i 0 x0 hi (by rw [e]; rfl), h i 1 x1 hi (by rw [e]; rfl), h i 2 x2 hi (by rw [e]; rfl), h i 3 x3 hi (by rw [e]; rfl)⟩
theorem AtC.c6 {w : World} {b o n : Nat} {C : Nat → List Value} (h : AtC w b o n 6 C) {i : Nat} (hi : i < n) {x0 x1 x2 x3 x4 x5 : Value} (e : C i = [x0, x1, x2, x3, x4, x5]) : w.cell? ⟨b, o + i * 6, none⟩ = some x0 ∧ w.cell? ⟨b, o + i * 6 + 1, none⟩ = some x1 ∧ w.cell? ⟨b, o + i * 6 + 2, none⟩ = some x2 ∧ w.cell? ⟨b, o + i * 6 + 3, none⟩ = some x3 ∧ w.cell? ⟨b, o + i * 6 + 4, none⟩ = some x4 ∧ w.cell? ⟨b, o + i * 6 + 5, none⟩ = some x5 :=
  ⟨h i 0 x0 hi (by rw [e]; rfl), h i 1 x1 hi (by rw [e]; rfl), h i 2 x2 hi (by rw [e]; rfl), h i 3 x3 hi (by rw [e]; rfl), h i 4 x4 hi (by rw [e]; rfl), h i 5 x5 hi (by rw [e]; rfl)⟩
theorem AtC.later {w w' : World} {b o n s : Nat} {C : Nat → List Value} (h : AtC w b o n s C) (hb : Below w.heap.size w w') : AtC w' b o n s C := fun i j u hi hu => cell_later hb (h i j u hi hu)
theorem AtC.below {B : Nat} {w w' : World} {b o n s : Nat} {C : Nat → List Value} (h : AtC w b o n s C) (hb : Below B w w') (hB : b < B) : AtC w' b o n s C := fun i j u hi hu => (hb.cell (p := ⟨b, o + i * s + j, none⟩) hB).trans (h i j u hi hu)
theorem AtC.lt {w : World} {b o n s : Nat} {C : Nat → List Value} (h : AtC w b o n s C) {i : Nat} (hi : i < n) {x : Value} {l : List Value} (e : C i = x :: l) : b < w.heap.size := World.block_lt_of_cell? _ _ (h i 0 x hi (by rw [e]; rfl))

structure Mv where
  fr : Int
  tt : Int
  lo : Int
  hi : Int
structure Bu where
  co : Int
  lo : Int
  hi : Int
structure Ac where
  nm : ByteArray
  ki : Int
  o0 : Int
  o1 : Int
  c0 : Int
  c1 : Int
def inC (x : Nat → Int) (i : Nat) : List Value := [.int .i64 (x i)]
def spC (A B : Nat → Int) (i : Nat) : List Value := [.int .i64 (A i), .int .i64 (B i)]
def buC (B : Nat → Bu) (i : Nat) : List Value := [.int .i64 (B i).co, .int .i64 (B i).lo, .int .i64 (B i).hi]
def mvC (M : Nat → Mv) (i : Nat) : List Value := [.int .i64 (M i).fr, .int .i64 (M i).tt, .int .i64 (M i).lo, .int .i64 (M i).hi]
def acC (A : Nat → Ac) (i : Nat) : List Value := [.string (A i).nm, .int .i64 (A i).ki, .int .i64 (A i).o0, .int .i64 (A i).o1, .int .i64 (A i).c0, .int .i64 (A i).c1]
abbrev IntsAt (w : World) (v : Value) (n : Nat) (x : Nat → Int) : Prop := LAt w v n 1 (inC x)
abbrev SpansAt (w : World) (v : Value) (n : Nat) (A B : Nat → Int) : Prop := LAt w v n 2 (spC A B)
abbrev BusAt (w : World) (v : Value) (n : Nat) (B : Nat → Bu) : Prop := LAt w v n 3 (buC B)
abbrev MvsAt (w : World) (v : Value) (n : Nat) (M : Nat → Mv) : Prop := LAt w v n 4 (mvC M)
abbrev AcsAt (w : World) (v : Value) (n : Nat) (A : Nat → Ac) : Prop := LAt w v n 6 (acC A)
end Go.Proofs.Ytpeogfcfiabcfaa

/-
  BearKnown's main function.
-/
import Derived.Test.YtkkljbbgaogifaaTail
import Derived.Test.YtkkljbbgaogifaaKnH
import Derived.Test.YtkkljbbgaogifaaKnG
set_option linter.unusedVariables false
set_option linter.unusedSimpArgs false
namespace Go.Proofs.Ytkkljbbgaogifaa
open Go.RowKit

def putW (b : Nat) : List Value → Nat → World → World
  | [], _, w => w
  | y :: ys, o, w => putW b ys (o + 1) (w.setCell ⟨b, o, none⟩ y)
theorem Blk.any {w : World} {b : Nat} {C : Array Value} {t : TypeId} (h : Blk w b C t) {j : Nat} (hj : j < C.size) : ∃ v, w.cell? ⟨b, j, none⟩ = some v := ⟨C[j], h.cell j (by simp [hj])⟩
theorem Blk.puts {b : Nat} {t : TypeId} : ∀ (ys : List Value) (o : Nat) {w : World} {C : Array Value}, Blk w b C t → o + ys.length ≤ C.size →
    ∃ D : Array Value, D.size = C.size ∧ (∀ j, j < ys.length → D[o + j]? = ys[j]?) ∧ (∀ i, i < o ∨ o + ys.length ≤ i → D[i]? = C[i]?) ∧ Blk (putW b ys o w) b D t
  | [], _, _, C, h, _ => ⟨C, rfl, fun j hj => absurd hj (by simp), fun _ _ => rfl, h⟩
  | y :: ys, o, w, C, h, hs => by
    simp only [List.length_cons] at hs
    obtain ⟨D, s, f, g, k⟩ := Blk.puts ys (o + 1) (h.set o y) (by simp; omega)
    refine ⟨D, by simpa using s, fun j hj => ?_, fun i hi => ?_, k⟩
    · match j with
      | 0 =>
        rw [Nat.add_zero, g o (Or.inl (by omega)), Array.getElem?_setIfInBounds]
        simp [show o < C.size by omega]
      | j + 1 =>
        simp only [List.length_cons] at hj
        rw [show o + (j + 1) = o + 1 + j by omega, f j (by omega)]
        rfl
    · simp only [List.length_cons] at hi
      rw [g i (by omega), Array.getElem?_setIfInBounds, if_neg (by omega)]
theorem Blk.puto {b c : Nat} {t : TypeId} {C : Array Value} (hc : c ≠ b) : ∀ (ys : List Value) (o : Nat) {w : World}, Blk w c C t → Blk (putW b ys o w) c C t
  | [], _, _, h => h
  | y :: ys, o, w, h => Blk.puto hc ys (o + 1) (h.other ⟨b, o, none⟩ y hc)
theorem below_puts {B b : Nat} {w0 : World} (hB : B ≤ b) : ∀ (ys : List Value) (o : Nat) {w : World}, Below B w0 w → Below B w0 (putW b ys o w)
  | [], _, _, h => h
  | y :: ys, o, _, h => below_puts hB ys (o + 1) (h.setCell (p := ⟨b, o, none⟩) hB y)
structure Kq (V : World) (b k : Nat) (x : Pl) (uS uC : Value) : Prop where
  c : V.cell? ⟨b, k * 11, none⟩ = some (.int .i64 x.s0) ∧ V.cell? ⟨b, k * 11 + 1, none⟩ = some (.int .i64 x.s1) ∧ V.cell? ⟨b, k * 11 + 2, none⟩ = some (uS) ∧ V.cell? ⟨b, k * 11 + 3, none⟩ = some (uC) ∧ V.cell? ⟨b, k * 11 + 4, none⟩ = some (.int .i64 x.ne) ∧ V.cell? ⟨b, k * 11 + 5, none⟩ = some (.int .i64 x.ed) ∧ V.cell? ⟨b, k * 11 + 6, none⟩ = some (.int .i64 x.gr) ∧ V.cell? ⟨b, k * 11 + 7, none⟩ = some (.int .i64 x.lo) ∧ V.cell? ⟨b, k * 11 + 8, none⟩ = some (.int .i64 x.hi) ∧ V.cell? ⟨b, k * 11 + 9, none⟩ = some (.int .i64 x.sh) ∧ V.cell? ⟨b, k * 11 + 10, none⟩ = some (.int .i64 x.wi)
  S : TabAt V uS x.S
  C : TabAt V uC x.C
theorem Kq.later {V W : World} {b k : Nat} {x : Pl} {uS uC : Value} (h : Kq V b k x uS uC) (hb : Below V.heap.size V W) : Kq W b k x uS uC :=
  ⟨by obtain ⟨c0, c1, c2, c3, c4, c5, c6, c7, c8, c9, c10⟩ := h.c; exact ⟨cell_later hb c0, cell_later hb c1, cell_later hb c2, cell_later hb c3, cell_later hb c4, cell_later hb c5, cell_later hb c6, cell_later hb c7, cell_later hb c8, cell_later hb c9, cell_later hb c10⟩, PairsAt.later h.S hb, PairsAt.later h.C hb⟩

set_option maxRecDepth 100000 in
set_option maxHeartbeats 4000000 in
theorem kplate_own (w : World) : Calls Try.prog 49 #[] w fun e w' => ∃ b c, e = .returned (.agg #[.int .i64 pl0.s0, .int .i64 pl0.s1, (.slice (some ⟨b, 0, none⟩) 3 3), (.slice (some ⟨c, 0, none⟩) 3 3), .int .i64 pl0.ne, .int .i64 pl0.ed, .int .i64 pl0.gr, .int .i64 pl0.lo, .int .i64 pl0.hi, .int .i64 pl0.sh, .int .i64 pl0.wi]) ∧ w.heap.size ≤ b ∧ b < c ∧ Blk w' b #[.int .i64 0, .int .i64 1000000, .int .i64 20, .int .i64 500000, .int .i64 100, .int .i64 0] 68 ∧ Blk w' c #[.int .i64 0, .int .i64 1000000, .int .i64 60, .int .i64 640000, .int .i64 600, .int .i64 250000] 68 ∧ Below w.heap.size w w' := by
  have jO := Blk.new w #[.int .i64 0, .int .i64 0, .slice none 0 0, .slice none 0 0, .int .i64 0, .int .i64 0, .int .i64 0, .int .i64 0, .int .i64 0, .int .i64 0, .int .i64 0] 26
  have jB : Below w.heap.size w (w.alloc (.cells #[.int .i64 0, .int .i64 0, .slice none 0 0, .slice none 0 0, .int .i64 0, .int .i64 0, .int .i64 0, .int .i64 0, .int .i64 0, .int .i64 0, .int .i64 0] 26)) := by (repeat (first | exact Below.refl _ _ | assumption | refine Below.drew ?_ | refine Below.drewN ?_ _ | refine blT ?_ | refine blU ?_))
  go_enter Try.func49, Try.ntmps49
  go_wp2_with fail
  refine (kspan_any _ _ _).mono ?_
  rintro e w1 ⟨rfl, hb⟩
  replace jO := jO.call hb
  replace jB := bwS jB (Nat.le_refl _) hb
  clear hb
  have zO := jO.lt
  have zO2 : w.heap.size < w1.heap.size + 1 := by omega
  obtain ⟨r0, r1, r2, r3, r4, r5, r6, r7, r8, r9, r10⟩ := jO.c11
  have g0 := jO.free 0
  have g1 := jO.free 1
  have g2 := jO.free 2
  have g3 := jO.free 3
  have g4 := jO.free 4
  have g5 := jO.free 5
  have g6 := jO.free 6
  have g7 := jO.free 7
  have g8 := jO.free 8
  have g9 := jO.free 9
  have g10 := jO.free 10
  have HX := Lib.hid (jO.set11 (.int .i64 40000) (.int .i64 50000) (.slice (some ⟨w1.heap.size, 0, none⟩) 3 3) (.slice (some ⟨w1.heap.size + 1, 0, none⟩) 3 3) (.int .i64 5) (.int .i64 500000) (.int .i64 98) (.int .i64 640000) (.int .i64 1440000) (.int .i64 50) (.int .i64 250000))
  have HW := Lib.hid (show Below w.heap.size w (((((((((((w1.setCell ⟨w.heap.size, 0, none⟩ (.int .i64 40000)).setCell ⟨w.heap.size, 1, none⟩ (.int .i64 50000)).setCell ⟨w.heap.size, 2, none⟩ (.slice (some ⟨w1.heap.size, 0, none⟩) 3 3)).setCell ⟨w.heap.size, 3, none⟩ (.slice (some ⟨w1.heap.size + 1, 0, none⟩) 3 3)).setCell ⟨w.heap.size, 4, none⟩ (.int .i64 5)).setCell ⟨w.heap.size, 5, none⟩ (.int .i64 500000)).setCell ⟨w.heap.size, 6, none⟩ (.int .i64 98)).setCell ⟨w.heap.size, 7, none⟩ (.int .i64 640000)).setCell ⟨w.heap.size, 8, none⟩ (.int .i64 1440000)).setCell ⟨w.heap.size, 9, none⟩ (.int .i64 50)).setCell ⟨w.heap.size, 10, none⟩ (.int .i64 250000)) from ((((((((((jB.setCell (Nat.le_refl _) _).setCell (Nat.le_refl _) _).setCell (Nat.le_refl _) _).setCell (Nat.le_refl _) _).setCell (Nat.le_refl _) _).setCell (Nat.le_refl _) _).setCell (Nat.le_refl _) _).setCell (Nat.le_refl _) _).setCell (Nat.le_refl _) _).setCell (Nat.le_refl _) _).setCell (Nat.le_refl _) _)
  clear jO jB
  go_wp2
  have hX := HX.out
  have hW := HW.out
  clear HX HW
  have hsz : (((((((((((w1.setCell ⟨w.heap.size, 0, none⟩ (.int .i64 40000)).setCell ⟨w.heap.size, 1, none⟩ (.int .i64 50000)).setCell ⟨w.heap.size, 2, none⟩ (.slice (some ⟨w1.heap.size, 0, none⟩) 3 3)).setCell ⟨w.heap.size, 3, none⟩ (.slice (some ⟨w1.heap.size + 1, 0, none⟩) 3 3)).setCell ⟨w.heap.size, 4, none⟩ (.int .i64 5)).setCell ⟨w.heap.size, 5, none⟩ (.int .i64 500000)).setCell ⟨w.heap.size, 6, none⟩ (.int .i64 98)).setCell ⟨w.heap.size, 7, none⟩ (.int .i64 640000)).setCell ⟨w.heap.size, 8, none⟩ (.int .i64 1440000)).setCell ⟨w.heap.size, 9, none⟩ (.int .i64 50)).setCell ⟨w.heap.size, 10, none⟩ (.int .i64 250000)).heap.size = w1.heap.size := by simp
  generalize (((((((((((w1.setCell ⟨w.heap.size, 0, none⟩ (.int .i64 40000)).setCell ⟨w.heap.size, 1, none⟩ (.int .i64 50000)).setCell ⟨w.heap.size, 2, none⟩ (.slice (some ⟨w1.heap.size, 0, none⟩) 3 3)).setCell ⟨w.heap.size, 3, none⟩ (.slice (some ⟨w1.heap.size + 1, 0, none⟩) 3 3)).setCell ⟨w.heap.size, 4, none⟩ (.int .i64 5)).setCell ⟨w.heap.size, 5, none⟩ (.int .i64 500000)).setCell ⟨w.heap.size, 6, none⟩ (.int .i64 98)).setCell ⟨w.heap.size, 7, none⟩ (.int .i64 640000)).setCell ⟨w.heap.size, 8, none⟩ (.int .i64 1440000)).setCell ⟨w.heap.size, 9, none⟩ (.int .i64 50)).setCell ⟨w.heap.size, 10, none⟩ (.int .i64 250000)) = W at hX hW hsz ⊢
  rw [← hsz] at hX ⊢
  have k1 := (Blk.new W #[.int .i64 0, .int .i64 1000000, .int .i64 20, .int .i64 500000, .int .i64 100, .int .i64 0] 68).alloc (.cells #[.int .i64 0, .int .i64 1000000, .int .i64 60, .int .i64 640000, .int .i64 600, .int .i64 250000] 68)
  have k2 := Blk.new1 W (.cells #[.int .i64 0, .int .i64 1000000, .int .i64 20, .int .i64 500000, .int .i64 100, .int .i64 0] 68) #[.int .i64 0, .int .i64 1000000, .int .i64 60, .int .i64 640000, .int .i64 600, .int .i64 250000] 68
  have hR := (hX.alloc (.cells #[.int .i64 0, .int .i64 1000000, .int .i64 20, .int .i64 500000, .int .i64 100, .int .i64 0] 68)).alloc (.cells #[.int .i64 0, .int .i64 1000000, .int .i64 60, .int .i64 640000, .int .i64 600, .int .i64 250000] 68)
  have hV : Below w.heap.size w ((W.alloc (.cells #[.int .i64 0, .int .i64 1000000, .int .i64 20, .int .i64 500000, .int .i64 100, .int .i64 0] 68)).alloc (.cells #[.int .i64 0, .int .i64 1000000, .int .i64 60, .int .i64 640000, .int .i64 600, .int .i64 250000] 68)) := (hW.alloc (Nat.le_trans (by omega) (Nat.le_of_eq hsz.symm)) _).alloc (by simp; omega) _
  generalize (W.alloc (.cells #[.int .i64 0, .int .i64 1000000, .int .i64 20, .int .i64 500000, .int .i64 100, .int .i64 0] 68)).alloc (.cells #[.int .i64 0, .int .i64 1000000, .int .i64 60, .int .i64 640000, .int .i64 600, .int .i64 250000] 68) = V at k1 k2 hR hV ⊢
  obtain ⟨z0, z1, z2, z3, z4, z5, z6, z7, z8, z9, z10⟩ := hR.c11
  exact bodyPost_ret (v := .agg #[.int .i64 pl0.s0, .int .i64 pl0.s1, (.slice (some ⟨W.heap.size, 0, none⟩) 3 3), (.slice (some ⟨W.heap.size + 1, 0, none⟩) 3 3), .int .i64 pl0.ne, .int .i64 pl0.ed, .int .i64 pl0.gr, .int .i64 pl0.lo, .int .i64 pl0.hi, .int .i64 pl0.sh, .int .i64 pl0.wi]) (by simp [results, Try.results49, go_sem, z0, z1, z2, z3, z4, z5, z6, z7, z8, z9, z10, pl0]) rfl ⟨_, _, rfl, by omega, Nat.lt_succ_self _, k1, k2, hV⟩

def knL (b c : Nat) : List Value := [.int .i64 40000, .int .i64 50000, .slice (some ⟨b, 0, none⟩) 3 3, .slice (some ⟨c, 0, none⟩) 3 3, .int .i64 5, .int .i64 500000, .int .i64 98, .int .i64 640000, .int .i64 1440000, .int .i64 50, .int .i64 250000]
structure KnQ (W : World) (bL : Nat) (C : Array Value) (q b c : Nat) : Prop where
  g1 : bL < b
  g2 : b < c
  cs : ∀ j, j < 11 → C[q * 11 + j]? = (knL b c)[j]?
  sh : Blk W b #[.int .i64 0, .int .i64 1000000, .int .i64 20, .int .i64 500000, .int .i64 100, .int .i64 0] 68
  cr : Blk W c #[.int .i64 0, .int .i64 1000000, .int .i64 60, .int .i64 640000, .int .i64 600, .int .i64 250000] 68
structure KnI (w W : World) (bL k : Nat) (C : Array Value) (B D : Nat → Nat) : Prop where
  lt : w.heap.size ≤ bL
  old : Below w.heap.size w W
  blk : Blk W bL C 65
  size : C.size = 44
  all : ∀ q, q < k → KnQ W bL C q (B q) (D q)
  ord : ∀ q r, q < r → r < k → D q < B r
theorem KnI.call {w W W' : World} {bL k : Nat} {C : Array Value} {B D : Nat → Nat} (h : KnI w W bL k C B D) (hb : Below W.heap.size W W') : KnI w W' bL k C B D :=
  ⟨h.lt, bwS h.old (Nat.le_refl _) hb, h.blk.call hb, h.size, fun q hq => by
    obtain ⟨a, b, c, d, e⟩ := h.all q hq
    exact ⟨a, b, c, d.call hb, e.call hb⟩, h.ord⟩
theorem KnI.put {w W : World} {bL k : Nat} {C : Array Value} {B D : Nat → Nat} (h : KnI w W bL k C B D) (hk : k < 4) {b c : Nat} (h1 : bL < b) (h2 : b < c) (h3 : Blk W b #[.int .i64 0, .int .i64 1000000, .int .i64 20, .int .i64 500000, .int .i64 100, .int .i64 0] 68) (h4 : Blk W c #[.int .i64 0, .int .i64 1000000, .int .i64 60, .int .i64 640000, .int .i64 600, .int .i64 250000] 68) (h5 : ∀ q, q < k → D q < b) :
    ∃ (C' : Array Value) (B' D' : Nat → Nat), KnI w (putW bL (knL b c) (k * 11) W) bL (k + 1) C' B' D' := by
  obtain ⟨C', s, f, g, hB⟩ := Blk.puts (knL b c) (k * 11) h.blk (by rw [h.size]; show k * 11 + 11 ≤ 44; omega)
  have hf : ∀ j, j < 11 → C'[k * 11 + j]? = (knL b c)[j]? := f
  have hg : ∀ i, i < k * 11 ∨ k * 11 + 11 ≤ i → C'[i]? = C[i]? := g
  refine ⟨C', fun q => if q = k then b else B q, fun q => if q = k then c else D q, h.lt, below_puts h.lt _ _ h.old, hB, by rw [s, h.size], fun q hq => ?_, fun q r hqr hr => ?_⟩
  · by_cases e : q = k
    · subst e
      rw [if_pos rfl, if_pos rfl]
      exact ⟨h1, h2, hf, Blk.puto (by omega) _ _ h3, Blk.puto (by omega) _ _ h4⟩
    · rw [if_neg e, if_neg e]
      obtain ⟨a1, a2, a3, a4, a5⟩ := h.all q (by omega)
      exact ⟨a1, a2, fun j hj => by rw [hg _ (by omega)]; exact a3 j hj, Blk.puto (by omega) _ _ a4, Blk.puto (by omega) _ _ a5⟩
  · have hq : q ≠ k := by omega
    simp only [hq, if_false]
    by_cases e : r = k
    · subst e
      simp only [if_true]
      exact h5 q hqr
    · simp only [e, if_false]
      exact h.ord q r hqr (by omega)


theorem KnI.drew {w W : World} {bL k : Nat} {C : Array Value} {B D : Nat → Nat} (h : KnI w W bL k C B D) : KnI w W.drew bL k C B D :=
  ⟨h.lt, h.old.drew, h.blk.drew, h.size, fun q hq => by
    obtain ⟨a, b, c, d, e⟩ := h.all q hq
    exact ⟨a, b, c, d.drew, e.drew⟩, h.ord⟩

structure KnS (w W : World) (bL b : Nat) : Prop where
  old : Below w.heap.size w W
  arr : ∃ C : Array Value, Blk W bL C 65 ∧ C.size = 44 ∧ C[24]? = some (.slice (some ⟨b, 0, none⟩) 3 3)
  tab : ∃ C : Array Value, Blk W b C 68 ∧ C.size = 6
theorem KnS.call {w W W' : World} {bL b : Nat} (h : KnS w W bL b) (hb : Below W.heap.size W W') : KnS w W' bL b := by
  obtain ⟨a, ⟨C, c1, c2, c3⟩, ⟨E, e1, e2⟩⟩ := h
  exact ⟨bwS a (Nat.le_refl _) hb, ⟨C, c1.call hb, c2, c3⟩, ⟨E, e1.call hb, e2⟩⟩
theorem KnS.drew {w W : World} {bL b : Nat} (h : KnS w W bL b) : KnS w W.drew bL b := by
  obtain ⟨a, ⟨C, c1, c2, c3⟩, ⟨E, e1, e2⟩⟩ := h
  exact ⟨a.drew, ⟨C, c1.drew, c2, c3⟩, ⟨E, e1.drew, e2⟩⟩
theorem KnS.setL {w W : World} {bL b : Nat} (h : KnS w W bL b) (hle : w.heap.size ≤ bL) (hb : b ≠ bL) (j : Nat) (hj : j ≠ 24) (u : Value) : KnS w (W.setCell ⟨bL, j, none⟩ u) bL b := by
  obtain ⟨a, ⟨C, c1, c2, c3⟩, ⟨E, e1, e2⟩⟩ := h
  exact ⟨a.setCell (p := ⟨bL, j, none⟩) hle u, ⟨_, c1.set j u, by simpa using c2, by rw [Array.getElem?_setIfInBounds, if_neg hj]; exact c3⟩, ⟨E, e1.other _ u hb, e2⟩⟩
theorem KnS.setB {w W : World} {bL b : Nat} (h : KnS w W bL b) (hle : w.heap.size ≤ bL) (hb : bL < b) (j : Nat) (u : Value) : KnS w (W.setCell ⟨b, j, none⟩ u) bL b := by
  obtain ⟨a, ⟨C, c1, c2, c3⟩, ⟨E, e1, e2⟩⟩ := h
  exact ⟨a.setCell (p := ⟨b, j, none⟩) (show w.heap.size ≤ b by omega) u, ⟨C, c1.other _ u (show bL ≠ b by omega), c2, c3⟩, ⟨_, e1.set j u, by simpa using e2⟩⟩
theorem KnI.s {w W : World} {bL : Nat} {C : Array Value} {B D : Nat → Nat} (h : KnI w W bL 4 C B D) : KnS w W bL (B 2) :=
  ⟨h.old, ⟨C, h.blk, h.size, (h.all 2 (by omega)).cs 2 (by omega)⟩, ⟨_, (h.all 2 (by omega)).sh, rfl⟩⟩

def kpl : Nat → Pl
  | 0 => ⟨0, 1, ⟨3, F3 0 20 100, F3 1000000 500000 0⟩, ⟨3, F3 0 60 600, F3 1000000 640000 250000⟩, 5, 500000, 98, 640000, 1440000, 50, 250000⟩
  | 1 => ⟨40000, 50000, ⟨0, F3 0 20 100, F3 1000000 500000 0⟩, ⟨3, F3 0 60 600, F3 1000000 640000 250000⟩, 5, 500000, 98, 640000, 1440000, 50, 250000⟩
  | 2 => ⟨40000, 50000, ⟨3, F3 0 20 100, F3 999999 500000 0⟩, ⟨3, F3 0 60 600, F3 1000000 640000 250000⟩, 5, 500000, 98, 640000, 1440000, 50, 250000⟩
  | _ => ⟨40000, 50000, ⟨3, F3 0 20 100, F3 1000000 500000 0⟩, ⟨3, F3 0 60 600, F3 1000000 640000 250000⟩, 5, 500000, 98, 1440001, 1440000, 50, 250000⟩
def kwant : Nat → Int
  | 0 => 2
  | 1 => 6
  | 2 => 3
  | _ => 11
theorem kpl_err : ∀ q, q < 4 → ePl (kpl q) = kwant q := fun q hq => by
  obtain rfl | rfl | rfl | rfl : q = 0 ∨ q = 1 ∨ q = 2 ∨ q = 3 := by omega
  all_goals decide
def plL (p : Pl) (u v : Value) : List Value := [.int .i64 p.s0, .int .i64 p.s1, u, v, .int .i64 p.ne, .int .i64 p.ed, .int .i64 p.gr, .int .i64 p.lo, .int .i64 p.hi, .int .i64 p.sh, .int .i64 p.wi]
structure KnJ (w W : World) (bL : Nat) : Prop where
  old : Below w.heap.size w W
  arr : ∃ C : Array Value, Blk W bL C 65 ∧ ∀ q, q < 4 → ∃ u v, (∀ j, j < 11 → C[q * 11 + j]? = (plL (kpl q) u v)[j]?) ∧ TabAt W u (kpl q).S ∧ TabAt W v (kpl q).C
theorem KnJ.call {w W W' : World} {bL : Nat} (h : KnJ w W bL) (hb : Below W.heap.size W W') : KnJ w W' bL := by
  obtain ⟨a, C, c, d⟩ := h
  exact ⟨bwS a (Nat.le_refl _) hb, C, c.call hb, fun q hq => by
    obtain ⟨u, v, e, t1, t2⟩ := d q hq
    exact ⟨u, v, e, PairsAt.later t1 hb, PairsAt.later t2 hb⟩⟩
theorem KnI.fix {w W : World} {bL : Nat} {C : Array Value} {B D : Nat → Nat} (h : KnI w W bL 4 C B D) :
    KnJ w (((((W.setCell ⟨bL, 0, none⟩ (.int .i64 0)).setCell ⟨bL, 1, none⟩ (.int .i64 1)).setCell ⟨bL, 13, none⟩ (.slice none 0 0)).setCell ⟨B 2, 1, none⟩ (.int .i64 999999)).setCell ⟨bL, 40, none⟩ (.int .i64 1440001)) bL := by
  have hle := h.lt
  have a0 := h.all 0 (by omega)
  have a1 := h.all 1 (by omega)
  have a2 := h.all 2 (by omega)
  have a3 := h.all 3 (by omega)
  have o02 := h.ord 0 2 (by omega) (by omega)
  have o12 := h.ord 1 2 (by omega) (by omega)
  have o23 := h.ord 2 3 (by omega) (by omega)
  have g0 := a0.g1
  have g1 := a1.g1
  have g2 := a2.g1
  have g3 := a3.g1
  have k0 := a0.g2
  have k1 := a1.g2
  have k2 := a2.g2
  have k3 := a3.g2
  have oth : ∀ (c : Nat) (E : Array Value) (t : TypeId), c ≠ bL → c ≠ B 2 → Blk W c E t → Blk (((((W.setCell ⟨bL, 0, none⟩ (.int .i64 0)).setCell ⟨bL, 1, none⟩ (.int .i64 1)).setCell ⟨bL, 13, none⟩ (.slice none 0 0)).setCell ⟨B 2, 1, none⟩ (.int .i64 999999)).setCell ⟨bL, 40, none⟩ (.int .i64 1440001)) c E t :=
    fun c E t h1 h2 hc => ((((hc.other ⟨bL, 0, none⟩ _ h1).other ⟨bL, 1, none⟩ _ h1).other ⟨bL, 13, none⟩ _ h1).other ⟨B 2, 1, none⟩ _ h2).other ⟨bL, 40, none⟩ _ h1
  have hB := ((((h.blk.set 0 (.int .i64 0)).set 1 (.int .i64 1)).set 13 (.slice none 0 0)).other ⟨B 2, 1, none⟩ (.int .i64 999999) (show bL ≠ B 2 by omega)).set 40 (.int .i64 1440001)
  have h2 : Blk (((((W.setCell ⟨bL, 0, none⟩ (.int .i64 0)).setCell ⟨bL, 1, none⟩ (.int .i64 1)).setCell ⟨bL, 13, none⟩ (.slice none 0 0)).setCell ⟨B 2, 1, none⟩ (.int .i64 999999)).setCell ⟨bL, 40, none⟩ (.int .i64 1440001)) (B 2) #[.int .i64 0, .int .i64 999999, .int .i64 20, .int .i64 500000, .int .i64 100, .int .i64 0] 68 :=
    (((((a2.sh.other ⟨bL, 0, none⟩ _ (show B 2 ≠ bL by omega)).other ⟨bL, 1, none⟩ _ (show B 2 ≠ bL by omega)).other ⟨bL, 13, none⟩ _ (show B 2 ≠ bL by omega)).set 1 (.int .i64 999999)).other ⟨bL, 40, none⟩ _ (show B 2 ≠ bL by omega))
  refine ⟨((((h.old.setCell (p := ⟨bL, 0, none⟩) hle _).setCell (p := ⟨bL, 1, none⟩) hle _).setCell (p := ⟨bL, 13, none⟩) hle _).setCell (p := ⟨B 2, 1, none⟩) (show w.heap.size ≤ B 2 by omega) _).setCell (p := ⟨bL, 40, none⟩) hle _, _, hB, ?_⟩
  have hs := h.size
  have e : ∀ i, ((((C.setIfInBounds 0 (.int .i64 0)).setIfInBounds 1 (.int .i64 1)).setIfInBounds 13 (.slice none 0 0)).setIfInBounds 40 (.int .i64 1440001))[i]? = if i = 40 then some (.int .i64 1440001) else if i = 13 then some (.slice none 0 0) else if i = 1 then some (.int .i64 1) else if i = 0 then some (.int .i64 0) else C[i]? := fun i => by
    simp only [Array.getElem?_setIfInBounds, Array.size_setIfInBounds, hs]
    by_cases e1 : i = 40
    · subst e1; simp
    by_cases e2 : i = 13
    · subst e2; simp
    by_cases e3 : i = 1
    · subst e3; simp
    by_cases e4 : i = 0
    · subst e4; simp
    simp [e1, e2, e3, e4, Ne.symm e1, Ne.symm e2, Ne.symm e3, Ne.symm e4]
  intro q hq
  obtain rfl | rfl | rfl | rfl : q = 0 ∨ q = 1 ∨ q = 2 ∨ q = 3 := by omega
  · refine ⟨_, _, fun j hj => ?_, pairs3 (oth _ _ _ (by omega) (by omega) a0.sh), pairs3 (oth _ _ _ (by omega) (by omega) a0.cr)⟩
    rw [e]
    by_cases e3 : j = 1
    · subst e3; rfl
    by_cases e4 : j = 0
    · subst e4; rfl
    rw [if_neg (by omega), if_neg (by omega), if_neg (by omega), if_neg (by omega), a0.cs j hj]
    match j, e3, e4 with
    | j + 2, _, _ => rfl
  · refine ⟨.slice none 0 0, _, fun j hj => ?_, ⟨none, 0, rfl, Nat.le_refl _, by decide, fun h => absurd h (show ¬ 0 < 0 by omega)⟩, pairs3 (oth _ _ _ (by omega) (by omega) a1.cr)⟩
    rw [e]
    by_cases e3 : j = 2
    · subst e3; rfl
    rw [if_neg (by omega), if_neg (by omega), if_neg (by omega), if_neg (by omega), a1.cs j hj]
    match j, e3 with
    | 0, _ => rfl
    | 1, _ => rfl
    | j + 3, _ => rfl
  · refine ⟨_, _, fun j hj => ?_, pairs3 h2, pairs3 (oth _ _ _ (by omega) (by omega) a2.cr)⟩
    rw [e, if_neg (by omega), if_neg (by omega), if_neg (by omega), if_neg (by omega), a2.cs j hj]
    rfl
  · refine ⟨_, _, fun j hj => ?_, pairs3 (oth _ _ _ (by omega) (by omega) a3.sh), pairs3 (oth _ _ _ (by omega) (by omega) a3.cr)⟩
    rw [e]
    by_cases e3 : j = 7
    · subst e3; rfl
    rw [if_neg (by omega), if_neg (by omega), if_neg (by omega), if_neg (by omega), a3.cs j hj]
    match j, e3 with
    | 0, _ => rfl
    | 1, _ => rfl
    | 2, _ => rfl
    | 3, _ => rfl
    | 4, _ => rfl
    | 5, _ => rfl
    | 6, _ => rfl
    | j + 8, _ => rfl

theorem kcBears (vS vC : Value) (W : World) (hS : TabAt W vS pl0.S) (hC : TabAt W vC pl0.C) : Calls Try.prog 25 #[.agg #[.int .i64 pl0.s0, .int .i64 pl0.s1, vS, vC, .int .i64 pl0.ne, .int .i64 pl0.ed, .int .i64 pl0.gr, .int .i64 pl0.lo, .int .i64 pl0.hi, .int .i64 pl0.sh, .int .i64 pl0.wi], .int .i64 500, .int .i64 59] W fun e w' => e = .returned (.tuple #[.int .i64 10000, .int .i64 0]) ∧ Below W.heap.size W w' := by
  have H := bears_valid pl0 pl0_ok vS vC 500 59 (by decide) (by decide) W hS hC
  rw [kn_bears] at H
  exact H
theorem kcNeed1 (vS vC : Value) (W : World) (hS : TabAt W vS pl0.S) (hC : TabAt W vC pl0.C) : Calls Try.prog 26 #[.agg #[.int .i64 pl0.s0, .int .i64 pl0.s1, vS, vC, .int .i64 pl0.ne, .int .i64 pl0.ed, .int .i64 pl0.gr, .int .i64 pl0.lo, .int .i64 pl0.hi, .int .i64 pl0.sh, .int .i64 pl0.wi], .int .i64 10001, .int .i64 0] W fun e w' => e = .returned (.tuple #[.int .i64 501, .int .i64 0]) ∧ Below W.heap.size W w' := by
  have H := need_full pl0 vS vC 10001 0 W hS hC
  rw [kn_needR1.1, kn_needR1.2] at H
  exact H
theorem kcNeed2 (vS vC : Value) (W : World) (hS : TabAt W vS pl0.S) (hC : TabAt W vC pl0.C) : Calls Try.prog 26 #[.agg #[.int .i64 pl0.s0, .int .i64 pl0.s1, vS, vC, .int .i64 pl0.ne, .int .i64 pl0.ed, .int .i64 pl0.gr, .int .i64 pl0.lo, .int .i64 pl0.hi, .int .i64 pl0.sh, .int .i64 pl0.wi], .int .i64 200000, .int .i64 600] W fun e w' => e = .returned (.tuple #[.int .i64 4473, .int .i64 0]) ∧ Below W.heap.size W w' := by
  have H := need_full pl0 vS vC 200000 600 W hS hC
  rw [kn_needR2.1, kn_needR2.2] at H
  exact H
theorem kcStand1 (vS vC : Value) (W : World) (hS : TabAt W vS pl0.S) (hC : TabAt W vC pl0.C) : Calls Try.prog 28 #[.agg #[.int .i64 pl0.s0, .int .i64 pl0.s1, vS, vC, .int .i64 pl0.ne, .int .i64 pl0.ed, .int .i64 pl0.gr, .int .i64 pl0.lo, .int .i64 pl0.hi, .int .i64 pl0.sh, .int .i64 pl0.wi], .int .i64 500, .int .i64 6400] W fun e w' => e = .returned (.tuple #[.int .i64 599, .int .i64 0]) ∧ Below W.heap.size W w' := by
  have H := stands_full pl0 vS vC 500 6400 W hS hC
  rw [kn_stand1, show e3 pl0 (eN 500 0 5000) (eN 6400 0 200000) = 0 from e3_zero pl0_ok (by decide) (by decide)] at H
  exact H
theorem kcStand2 (vS vC : Value) (W : World) (hS : TabAt W vS pl0.S) (hC : TabAt W vC pl0.C) : Calls Try.prog 28 #[.agg #[.int .i64 pl0.s0, .int .i64 pl0.s1, vS, vC, .int .i64 pl0.ne, .int .i64 pl0.ed, .int .i64 pl0.gr, .int .i64 pl0.lo, .int .i64 pl0.hi, .int .i64 pl0.sh, .int .i64 pl0.wi], .int .i64 500, .int .i64 10001] W fun e w' => e = .returned (.tuple #[.int .i64 (-1), .int .i64 0]) ∧ Below W.heap.size W w' := by
  have H := stands_full pl0 vS vC 500 10001 W hS hC
  rw [kn_stand2, show e3 pl0 (eN 500 0 5000) (eN 10001 0 200000) = 0 from e3_zero pl0_ok (by decide) (by decide)] at H
  exact H
theorem kcCheck0 (vS vC : Value) (W : World) (hS : TabAt W vS pl0.S) (hC : TabAt W vC pl0.C) : Calls Try.prog 30 #[.agg #[.int .i64 pl0.s0, .int .i64 pl0.s1, vS, vC, .int .i64 pl0.ne, .int .i64 pl0.ed, .int .i64 pl0.gr, .int .i64 pl0.lo, .int .i64 pl0.hi, .int .i64 pl0.sh, .int .i64 pl0.wi]] W fun e w' => e = .returned (.int .i64 0) ∧ Below W.heap.size W w' := by
  have H := check_any pl0 vS vC W hS hC
  rw [ePl_ok pl0_ok] at H
  exact H

set_option maxRecDepth 100000 in
set_option maxHeartbeats 16000000 in
theorem kmain_any (w : World) : Calls Try.prog 8 #[] w fun e w' => e = .returned (.bool true) ∧ Below w.heap.size w w' := by
  have HI : Hid (KnI w (w.alloc (.cells #[.int .i64 0, .int .i64 0, .slice none 0 0, .slice none 0 0, .int .i64 0, .int .i64 0, .int .i64 0, .int .i64 0, .int .i64 0, .int .i64 0, .int .i64 0, .int .i64 0, .int .i64 0, .slice none 0 0, .slice none 0 0, .int .i64 0, .int .i64 0, .int .i64 0, .int .i64 0, .int .i64 0, .int .i64 0, .int .i64 0, .int .i64 0, .int .i64 0, .slice none 0 0, .slice none 0 0, .int .i64 0, .int .i64 0, .int .i64 0, .int .i64 0, .int .i64 0, .int .i64 0, .int .i64 0, .int .i64 0, .int .i64 0, .slice none 0 0, .slice none 0 0, .int .i64 0, .int .i64 0, .int .i64 0, .int .i64 0, .int .i64 0, .int .i64 0, .int .i64 0] 65)) w.heap.size 0 #[.int .i64 0, .int .i64 0, .slice none 0 0, .slice none 0 0, .int .i64 0, .int .i64 0, .int .i64 0, .int .i64 0, .int .i64 0, .int .i64 0, .int .i64 0, .int .i64 0, .int .i64 0, .slice none 0 0, .slice none 0 0, .int .i64 0, .int .i64 0, .int .i64 0, .int .i64 0, .int .i64 0, .int .i64 0, .int .i64 0, .int .i64 0, .int .i64 0, .slice none 0 0, .slice none 0 0, .int .i64 0, .int .i64 0, .int .i64 0, .int .i64 0, .int .i64 0, .int .i64 0, .int .i64 0, .int .i64 0, .int .i64 0, .slice none 0 0, .slice none 0 0, .int .i64 0, .int .i64 0, .int .i64 0, .int .i64 0, .int .i64 0, .int .i64 0, .int .i64 0] (fun _ => 0) (fun _ => 0)) := Lib.hid ⟨Nat.le_refl _, (Below.refl _ _).alloc (Nat.le_refl _) _, Blk.new w _ _, rfl, fun q hq => absurd hq (by omega), fun q r _ hr => absurd hr (by omega)⟩
  go_enter Try.func8, Try.ntmps8
  go_upto_region 2 with fail
  generalize w.alloc (.cells #[.int .i64 0, .int .i64 0, .slice none 0 0, .slice none 0 0, .int .i64 0, .int .i64 0, .int .i64 0, .int .i64 0, .int .i64 0, .int .i64 0, .int .i64 0, .int .i64 0, .int .i64 0, .slice none 0 0, .slice none 0 0, .int .i64 0, .int .i64 0, .int .i64 0, .int .i64 0, .int .i64 0, .int .i64 0, .int .i64 0, .int .i64 0, .int .i64 0, .slice none 0 0, .slice none 0 0, .int .i64 0, .int .i64 0, .int .i64 0, .int .i64 0, .int .i64 0, .int .i64 0, .int .i64 0, .int .i64 0, .int .i64 0, .slice none 0 0, .slice none 0 0, .int .i64 0, .int .i64 0, .int .i64 0, .int .i64 0, .int .i64 0, .int .i64 0, .int .i64 0] 65) = V0 at HI ⊢
  generalize (#[.int .i64 0, .int .i64 0, .slice none 0 0, .slice none 0 0, .int .i64 0, .int .i64 0, .int .i64 0, .int .i64 0, .int .i64 0, .int .i64 0, .int .i64 0, .int .i64 0, .int .i64 0, .slice none 0 0, .slice none 0 0, .int .i64 0, .int .i64 0, .int .i64 0, .int .i64 0, .int .i64 0, .int .i64 0, .int .i64 0, .int .i64 0, .int .i64 0, .slice none 0 0, .slice none 0 0, .int .i64 0, .int .i64 0, .int .i64 0, .int .i64 0, .int .i64 0, .int .i64 0, .int .i64 0, .int .i64 0, .int .i64 0, .slice none 0 0, .slice none 0 0, .int .i64 0, .int .i64 0, .int .i64 0, .int .i64 0, .int .i64 0, .int .i64 0, .int .i64 0] : Array Value) = C0 at HI
  obtain ⟨bL, hbL⟩ : ∃ b, w.heap.size = b := ⟨_, rfl⟩
  have hle : w.heap.size ≤ bL := Nat.le_of_eq hbL
  rw [hbL] at HI ⊢
  clear hbL
  go_wp2_with fail
  go_loopw [2] (fun i wr => ∃ (k : Nat) (C : Array Value) (B D : Nat → Nat), k ≤ 4 ∧ i = .int .i64 k ∧ KnI w wr bL k C B D) (fun i _ => 4 - (intOf i).toNat)
  case atStart => exact ⟨0, C0, _, _, by omega, rfl, HI.out⟩
  case round =>
    clear HI C0 V0
    obtain ⟨k, C, B, D, hk, rfl, hI⟩ := hrel
    by_cases hlt2 : k < 4
    · have hk4 : (k : Int) < 4 := by omega
      have HK := Lib.hid hI
      clear hI
      go_wp2_with fail
      refine (kplate_own _).mono ?_
      rintro e w1 ⟨bb, cc, rfl, h1, h2, h3, h4, hb⟩
      have hI := HK.out
      have zl := hI.blk.lt
      have HX : Hid (∃ (C' : Array Value) (B' D' : Nat → Nat), KnI w (putW bL (knL bb cc) (k * 11) w1) bL (k + 1) C' B' D') := Lib.hid ((hI.call hb).put hlt2 (by omega) h2 h3 h4 (fun q hq => Nat.lt_of_lt_of_le (hI.all q hq).cr.lt h1))
      replace hI := hI.call hb
      have hs := hI.size
      obtain ⟨x0, r0⟩ := hI.blk.any (j := k * 11) (by omega)
      obtain ⟨x1, r1⟩ := hI.blk.any (j := k * 11 + 1) (by omega)
      obtain ⟨x2, r2⟩ := hI.blk.any (j := k * 11 + 2) (by omega)
      obtain ⟨x3, r3⟩ := hI.blk.any (j := k * 11 + 3) (by omega)
      obtain ⟨x4, r4⟩ := hI.blk.any (j := k * 11 + 4) (by omega)
      obtain ⟨x5, r5⟩ := hI.blk.any (j := k * 11 + 5) (by omega)
      obtain ⟨x6, r6⟩ := hI.blk.any (j := k * 11 + 6) (by omega)
      obtain ⟨x7, r7⟩ := hI.blk.any (j := k * 11 + 7) (by omega)
      obtain ⟨x8, r8⟩ := hI.blk.any (j := k * 11 + 8) (by omega)
      obtain ⟨x9, r9⟩ := hI.blk.any (j := k * 11 + 9) (by omega)
      obtain ⟨x10, r10⟩ := hI.blk.any (j := k * 11 + 10) (by omega)
      have g0 := hI.blk.free (k * 11)
      have g1 := hI.blk.free (k * 11 + 1)
      have g2 := hI.blk.free (k * 11 + 2)
      have g3 := hI.blk.free (k * 11 + 3)
      have g4 := hI.blk.free (k * 11 + 4)
      have g5 := hI.blk.free (k * 11 + 5)
      have g6 := hI.blk.free (k * 11 + 6)
      have g7 := hI.blk.free (k * 11 + 7)
      have g8 := hI.blk.free (k * 11 + 8)
      have g9 := hI.blk.free (k * 11 + 9)
      have g10 := hI.blk.free (k * 11 + 10)
      replace zl := hI.blk.lt
      clear hI hb h1 h2 h3 h4 HK hs
      go_wp2
      go_roundw
      case rel =>
        obtain ⟨C', B', D', hX⟩ := HX.out
        exact ⟨k + 1, C', B', D', by omega, by go_num, hX⟩
      case measure => simp [intOf]; omega
    · obtain rfl : k = 4 := by omega
      clear hlt2 hk
      have HK := Lib.hid hI
      clear hI
      have HS := Lib.hid (KnI.s HK.out)
      obtain ⟨bq, hbq⟩ : ∃ b, B 2 = b := ⟨_, rfl⟩
      have zq : bL < bq := by have := (HK.out.all 2 (by omega)).g1; omega
      have HF : Hid (∀ W', KnI w W' bL 4 C B D → KnJ w (((((W'.setCell ⟨bL, 0, none⟩ (.int .i64 0)).setCell ⟨bL, 1, none⟩ (.int .i64 1)).setCell ⟨bL, 13, none⟩ (.slice none 0 0)).setCell ⟨bq, 1, none⟩ (.int .i64 999999)).setCell ⟨bL, 40, none⟩ (.int .i64 1440001)) bL) := Lib.hid (fun W' h => by rw [← hbq]; exact h.fix)
      rw [hbq] at HS
      clear hbq
      go_upto_region 6 with fail
      refine wp_region_held_drew (S := (fun w' => KnS w w' bL bq)) (by kernel_rfl) ?_ (fun hH => ?_)
      · (try dsimp only); (exact HS.out.drew)
      refine tkY 0 (some 22) ?_ ?_ ?_
      rotate_left
      · intro w hS0; (try dsimp only at hS0); obtain ⟨_, ⟨CC, l1, l2, l3⟩, ⟨CE, l4, l5⟩⟩ := hS0; have y1 := l1.lt; have y2 := l4.lt; have y3 := l1.cell 24 l3;go_simp; (try with_reducible rfl)
      (try simp only [cq])
      refine tkY 1 (some 23) ?_ ?_ ?_
      rotate_left
      · intro w hS0; (try dsimp only at hS0); obtain ⟨_, ⟨CC, l1, l2, l3⟩, ⟨CE, l4, l5⟩⟩ := hS0; have y1 := l1.lt; have y2 := l4.lt; have y3 := l1.cell 24 l3;go_simp; (try with_reducible rfl)
      (try simp only [cq])
      refine tkY 2 (some 24) ?_ ?_ ?_
      rotate_left
      · intro w hS0; (try dsimp only at hS0); obtain ⟨_, ⟨CC, l1, l2, l3⟩, ⟨CE, l4, l5⟩⟩ := hS0; have y1 := l1.lt; have y2 := l4.lt; have y3 := l1.cell 24 l3;go_simp; (try with_reducible rfl)
      (try simp only [cq])
      refine wpAnyH_ready (rs := [3]) (by kernel_rfl) (by simp) ?_
      refine arc1 (some 25) fun K hK => ?_
      go_simp
      (refine (kspan_any _ _ _).mono ?_; rintro e w' ⟨rfl, hb⟩; have HI2 := Lib.hid (HF.out _ (HK.out.drew.call hb)))
      refine hK.out _ _ ?_ ?_
      · (exact hH.call hb)
      (try clear hH); (try clear hb)
      intro hH
      clear hK K
      (try simp only [cq])
      refine tkY 4 (some 26) ?_ ?_ ?_
      rotate_left
      · intro w hS0; (try dsimp only at hS0); obtain ⟨_, ⟨CC, l1, l2, l3⟩, ⟨CE, l4, l5⟩⟩ := hS0; have y1 := l1.lt; have y2 := l4.lt; have y3 := l1.cell 24 l3;go_simp; (try with_reducible rfl)
      (try simp only [cq])
      refine tkY 5 (some 27) ?_ ?_ ?_
      rotate_left
      · intro w hS0; (try dsimp only at hS0); obtain ⟨_, ⟨CC, l1, l2, l3⟩, ⟨CE, l4, l5⟩⟩ := hS0; have y1 := l1.lt; have y2 := l4.lt; have y3 := l1.cell 24 l3;go_simp; (try with_reducible rfl)
      (try simp only [cq])
      refine wpAnyH_ready (rs := [6]) (by kernel_rfl) (by simp) ?_
      refine arc1 none fun K hK => ?_
      obtain ⟨_, ⟨CC, l1, l2, l3⟩, ⟨CE, l4, l5⟩⟩ := id hH
      obtain ⟨x0, r0⟩ := l1.any (j := 0) (by omega)
      obtain ⟨x1, r1⟩ := l1.any (j := 1) (by omega)
      have f0 := l1.free 0
      have f1 := l1.free 1
      have y1 := l1.lt
      clear l1 l2 l3 l4 l5
      go_simp
      refine hK.out _ _ ?_ ?_
      · exact (hH.setL hle (by omega) 0 (by decide) _).setL hle (by omega) 1 (by decide) _
      (try clear hH); (try clear hb)
      intro hH
      clear r0 r1 f0 f1 y1
      clear hK K
      (try simp only [cq])
      refine tkY 7 (some 28) ?_ ?_ ?_
      rotate_left
      · intro w hS0; (try dsimp only at hS0); obtain ⟨_, ⟨CC, l1, l2, l3⟩, ⟨CE, l4, l5⟩⟩ := hS0; have y1 := l1.lt; have y2 := l4.lt; have y3 := l1.cell 24 l3;go_simp; (try with_reducible rfl)
      (try simp only [cq])
      refine tkY 8 (some 29) ?_ ?_ ?_
      rotate_left
      · intro w hS0; (try dsimp only at hS0); obtain ⟨_, ⟨CC, l1, l2, l3⟩, ⟨CE, l4, l5⟩⟩ := hS0; have y1 := l1.lt; have y2 := l4.lt; have y3 := l1.cell 24 l3;go_simp; (try with_reducible rfl)
      (try simp only [cq])
      refine wpAnyH_ready (rs := [9]) (by kernel_rfl) (by simp) ?_
      refine arc1 none fun K hK => ?_
      obtain ⟨_, ⟨CC, l1, l2, l3⟩, ⟨CE, l4, l5⟩⟩ := id hH
      obtain ⟨x0, r0⟩ := l1.any (j := 13) (by omega)
      have f0 := l1.free 13
      have y1 := l1.lt
      clear l1 l2 l3 l4 l5
      go_simp
      refine hK.out _ _ ?_ ?_
      · exact hH.setL hle (by omega) 13 (by decide) _
      (try clear hH); (try clear hb)
      intro hH
      clear r0 f0 y1
      clear hK K
      (try simp only [cq])
      refine tkY 10 (some 30) ?_ ?_ ?_
      rotate_left
      · intro w hS0; (try dsimp only at hS0); obtain ⟨_, ⟨CC, l1, l2, l3⟩, ⟨CE, l4, l5⟩⟩ := hS0; have y1 := l1.lt; have y2 := l4.lt; have y3 := l1.cell 24 l3;go_simp; (try with_reducible rfl)
      (try simp only [cq])
      refine tkY 11 (some 31) ?_ ?_ ?_
      rotate_left
      · intro w hS0; (try dsimp only at hS0); obtain ⟨_, ⟨CC, l1, l2, l3⟩, ⟨CE, l4, l5⟩⟩ := hS0; have y1 := l1.lt; have y2 := l4.lt; have y3 := l1.cell 24 l3;go_simp; (try with_reducible rfl)
      (try simp only [cq])
      refine wpAnyH_ready (rs := [12]) (by kernel_rfl) (by simp) ?_
      refine arc1 none fun K hK => ?_
      obtain ⟨_, ⟨CC, l1, l2, l3⟩, ⟨CE, l4, l5⟩⟩ := id hH
      obtain ⟨x0, r0⟩ := l4.any (j := 1) (by omega)
      have f0 := l4.free 1
      have y1 := l4.lt
      clear l1 l2 l3 l4 l5
      go_simp
      refine hK.out _ _ ?_ ?_
      · exact hH.setB hle zq 1 _
      (try clear hH); (try clear hb)
      intro hH
      clear r0 f0 y1
      clear hK K
      (try simp only [cq])
      refine tkY 13 (some 32) ?_ ?_ ?_
      rotate_left
      · intro w hS0; (try dsimp only at hS0); obtain ⟨_, ⟨CC, l1, l2, l3⟩, ⟨CE, l4, l5⟩⟩ := hS0; have y1 := l1.lt; have y2 := l4.lt; have y3 := l1.cell 24 l3;go_simp; (try with_reducible rfl)
      (try simp only [cq])
      refine tkY 14 (some 33) ?_ ?_ ?_
      rotate_left
      · intro w hS0; (try dsimp only at hS0); obtain ⟨_, ⟨CC, l1, l2, l3⟩, ⟨CE, l4, l5⟩⟩ := hS0; have y1 := l1.lt; have y2 := l4.lt; have y3 := l1.cell 24 l3;go_simp; (try with_reducible rfl)
      (try simp only [cq])
      refine wpAnyH_ready (rs := [15]) (by kernel_rfl) (by simp) ?_
      refine arc1 none fun K hK => ?_
      obtain ⟨_, ⟨CC, l1, l2, l3⟩, ⟨CE, l4, l5⟩⟩ := id hH
      obtain ⟨x0, r0⟩ := l1.any (j := 40) (by omega)
      have f0 := l1.free 40
      have y1 := l1.lt
      clear l1 l2 l3 l4 l5
      go_simp
      refine hK.out _ _ ?_ ?_
      · exact hH.setL hle (by omega) 40 (by decide) _
      (try clear hH); (try clear hb)
      intro hH
      clear r0 f0 y1
      clear hK K
      (try simp only [cq])
      refine wpAnyH_done (by kernel_rfl) ?_ _
      (try dsimp only [Act.put])
      (try simp only [cq])
      have hJ := HI2.out
      clear HI2 hH HF HK
      generalize ((((_ : World).setCell ⟨bL, 13, none⟩ (.slice none 0 0)).setCell ⟨bq, 1, none⟩ (.int .i64 999999)).setCell ⟨bL, 40, none⟩ (.int .i64 1440001)) = V6 at hJ ⊢
      go_upto_region 8 with fail
      have jW := Blk.new V6 #[.int .i64 2, .int .i64 6, .int .i64 3, .int .i64 11] 36
      replace hJ := hJ.call ((Below.refl V6.heap.size V6).alloc (Nat.le_refl _) (.cells #[.int .i64 2, .int .i64 6, .int .i64 3, .int .i64 11] 36))
      obtain ⟨bW, hbW⟩ : ∃ b, V6.heap.size = b := ⟨_, rfl⟩
      rw [hbW] at jW ⊢
      clear hbW
      generalize V6.alloc (.cells #[.int .i64 2, .int .i64 6, .int .i64 3, .int .i64 11] 36) = V7 at hJ jW ⊢
      have HB := Lib.hid hJ.old
      have HQ : Hid (∀ k, k < 4 → ∃ (p : Pl) (u v : Value) (z : Int), V7.cell? ⟨bW, k, none⟩ = some (.int .i64 z) ∧ Kq V7 bL k p u v ∧ ePl p = z) := Lib.hid (fun k hk => by
        obtain ⟨_, C, hC, hA⟩ := hJ
        obtain ⟨u, v, hc, t1, t2⟩ := hA k hk
        refine ⟨kpl k, u, v, kwant k, ?_, ⟨⟨hC.cell _ (hc 0 (by decide)), hC.cell _ (hc 1 (by decide)), hC.cell _ (hc 2 (by decide)), hC.cell _ (hc 3 (by decide)), hC.cell _ (hc 4 (by decide)), hC.cell _ (hc 5 (by decide)), hC.cell _ (hc 6 (by decide)), hC.cell _ (hc 7 (by decide)), hC.cell _ (hc 8 (by decide)), hC.cell _ (hc 9 (by decide)), hC.cell _ (hc 10 (by decide))⟩, t1, t2⟩, kpl_err k hk⟩
        obtain rfl | rfl | rfl | rfl : k = 0 ∨ k = 1 ∨ k = 2 ∨ k = 3 := by omega
        · exact jW.cell 0 rfl
        · exact jW.cell 1 rfl
        · exact jW.cell 2 rfl
        · exact jW.cell 3 rfl)
      have HF := Below.refl V7.heap.size V7
      clear hJ jW HS zq
      go_wp2_with fail
      go_loopw [4] (fun i wr => ∃ k : Nat, k ≤ 4 ∧ i = .int .i64 k ∧ Below V7.heap.size V7 wr) (fun i _ => 4 - (intOf i).toNat)
      case atStart => exact ⟨0, by omega, rfl, HF⟩
      case round =>
        clear HF
        obtain ⟨k, hk, rfl, hB⟩ := hrel
        by_cases hlt2 : k < 4
        · obtain ⟨p, u, v, z, h1, h2, h3⟩ := HQ.out k hlt2
          have hk4 : (k : Int) < 4 := by omega
          have HP := Lib.hid h2
          have HW := Lib.hid h1
          have HG : Hid (∀ W, Below V7.heap.size V7 W → Calls Try.prog 30 #[.agg #[.int .i64 p.s0, .int .i64 p.s1, u, v, .int .i64 p.ne, .int .i64 p.ed, .int .i64 p.gr, .int .i64 p.lo, .int .i64 p.hi, .int .i64 p.sh, .int .i64 p.wi]] W fun e w' => e = .returned (.int .i64 z) ∧ Below W.heap.size W w') := Lib.hid (fun W hW => by
            have q := check_any p u v W (PairsAt.later h2.S hW) (PairsAt.later h2.C hW)
            rw [h3] at q
            exact q)
          clear h1 h2 h3 HQ
          go_upto_region 11 with fail
          refine wp_region_held_drew (S := (fun w' => Below V7.heap.size V7 w')) (by kernel_rfl) ?_ (fun hH => ?_)
          · (try dsimp only); (exact hB.drew)
          refine tkY 0 (some 39) ?_ ?_ ?_
          rotate_left
          · intro w _; go_simp; (try with_reducible rfl)
          (try simp only [cq])
          refine tkY 1 (some 40) ?_ ?_ ?_
          rotate_left
          · intro w hS0; (try dsimp only at hS0); have c0 := cell_later hS0 HP.out.c.1; have c1 := cell_later hS0 HP.out.c.2.1; have c2 := cell_later hS0 HP.out.c.2.2.1; have c3 := cell_later hS0 HP.out.c.2.2.2.1; have c4 := cell_later hS0 HP.out.c.2.2.2.2.1; have c5 := cell_later hS0 HP.out.c.2.2.2.2.2.1; have c6 := cell_later hS0 HP.out.c.2.2.2.2.2.2.1; have c7 := cell_later hS0 HP.out.c.2.2.2.2.2.2.2.1; have c8 := cell_later hS0 HP.out.c.2.2.2.2.2.2.2.2.1; have c9 := cell_later hS0 HP.out.c.2.2.2.2.2.2.2.2.2.1; have c10 := cell_later hS0 HP.out.c.2.2.2.2.2.2.2.2.2.2; have t0 := cell_later hS0 HW.out; have z0 := World.block_lt_of_cell? _ _ t0; have z1 := World.block_lt_of_cell? _ _ c0;go_simp; (try with_reducible rfl)
          (try simp only [cq])
          refine tkY 2 (some 41) ?_ ?_ ?_
          rotate_left
          · intro w hS0; (try dsimp only at hS0); have c0 := cell_later hS0 HP.out.c.1; have c1 := cell_later hS0 HP.out.c.2.1; have c2 := cell_later hS0 HP.out.c.2.2.1; have c3 := cell_later hS0 HP.out.c.2.2.2.1; have c4 := cell_later hS0 HP.out.c.2.2.2.2.1; have c5 := cell_later hS0 HP.out.c.2.2.2.2.2.1; have c6 := cell_later hS0 HP.out.c.2.2.2.2.2.2.1; have c7 := cell_later hS0 HP.out.c.2.2.2.2.2.2.2.1; have c8 := cell_later hS0 HP.out.c.2.2.2.2.2.2.2.2.1; have c9 := cell_later hS0 HP.out.c.2.2.2.2.2.2.2.2.2.1; have c10 := cell_later hS0 HP.out.c.2.2.2.2.2.2.2.2.2.2; have t0 := cell_later hS0 HW.out; have z0 := World.block_lt_of_cell? _ _ t0; have z1 := World.block_lt_of_cell? _ _ c0;go_simp; (try with_reducible rfl)
          (try simp only [cq])
          refine tkY 4 (some 43) ?_ ?_ ?_
          rotate_left
          · intro w _; go_simp; (try with_reducible rfl)
          (try simp only [cq])
          refine tkY 5 (some 44) ?_ ?_ ?_
          rotate_left
          · intro w _; go_simp; (try with_reducible rfl)
          (try simp only [cq])
          refine tkY 6 (some 45) ?_ ?_ ?_
          rotate_left
          · intro w hS0; (try dsimp only at hS0); have c0 := cell_later hS0 HP.out.c.1; have c1 := cell_later hS0 HP.out.c.2.1; have c2 := cell_later hS0 HP.out.c.2.2.1; have c3 := cell_later hS0 HP.out.c.2.2.2.1; have c4 := cell_later hS0 HP.out.c.2.2.2.2.1; have c5 := cell_later hS0 HP.out.c.2.2.2.2.2.1; have c6 := cell_later hS0 HP.out.c.2.2.2.2.2.2.1; have c7 := cell_later hS0 HP.out.c.2.2.2.2.2.2.2.1; have c8 := cell_later hS0 HP.out.c.2.2.2.2.2.2.2.2.1; have c9 := cell_later hS0 HP.out.c.2.2.2.2.2.2.2.2.2.1; have c10 := cell_later hS0 HP.out.c.2.2.2.2.2.2.2.2.2.2; have t0 := cell_later hS0 HW.out; have z0 := World.block_lt_of_cell? _ _ t0; have z1 := World.block_lt_of_cell? _ _ c0;go_simp; (try with_reducible rfl)
          (try simp only [cq])
          refine tkY 7 (some 46) ?_ ?_ ?_
          rotate_left
          · intro w hS0; (try dsimp only at hS0); have c0 := cell_later hS0 HP.out.c.1; have c1 := cell_later hS0 HP.out.c.2.1; have c2 := cell_later hS0 HP.out.c.2.2.1; have c3 := cell_later hS0 HP.out.c.2.2.2.1; have c4 := cell_later hS0 HP.out.c.2.2.2.2.1; have c5 := cell_later hS0 HP.out.c.2.2.2.2.2.1; have c6 := cell_later hS0 HP.out.c.2.2.2.2.2.2.1; have c7 := cell_later hS0 HP.out.c.2.2.2.2.2.2.2.1; have c8 := cell_later hS0 HP.out.c.2.2.2.2.2.2.2.2.1; have c9 := cell_later hS0 HP.out.c.2.2.2.2.2.2.2.2.2.1; have c10 := cell_later hS0 HP.out.c.2.2.2.2.2.2.2.2.2.2; have t0 := cell_later hS0 HW.out; have z0 := World.block_lt_of_cell? _ _ t0; have z1 := World.block_lt_of_cell? _ _ c0;go_simp; (try with_reducible rfl)
          (try simp only [cq])
          refine wpAnyH_ready (rs := [3]) (by kernel_rfl) (by simp) ?_
          refine arc1 (some 42) fun K hK => ?_
          go_simp
          (refine (HG.out _ hH).mono ?_; rintro e w' ⟨rfl, hb⟩)
          refine hK.out _ _ ?_ ?_
          · (exact bwS hH (Nat.le_refl _) hb)
          (try clear hH); (try clear hb)
          intro hH
          clear hK K
          (try simp only [cq])
          refine tkY 8 (some 47) ?_ ?_ ?_
          rotate_left
          · intro w _; go_simp; (try with_reducible rfl)
          (try simp only [cq])
          refine wpAnyH_done (by kernel_rfl) ?_ _
          (try dsimp only [Act.put])
          (try simp only [cq])
          replace hB := hH
          clear hH HG HP HW
          go_wp2
          go_roundw
          case rel => exact ⟨k + 1, by omega, by go_num, hB⟩
          case measure => simp [intOf]; omega
        · have jB := bwS HB.out (Nat.le_refl _) hB
          clear hB HQ HB
          go_wp2_with fail
          refine (kplate_any _).mono ?_
          rintro e yy ⟨vS, vC, rfl, hS, hC, hb⟩
          replace jB := bwS jB (Nat.le_refl _) hb
          clear hb
          go_wp2_with fail
          refine (kcBears _ _ _ hS hC).mono ?_
          rintro e yy ⟨rfl, hb⟩
          replace jB := bwS jB (Nat.le_refl _) hb
          clear hb hS hC
          go_wp2_with fail
          refine (kplate_any _).mono ?_
          rintro e yy ⟨vS, vC, rfl, hS, hC, hb⟩
          replace jB := bwS jB (Nat.le_refl _) hb
          clear hb
          go_wp2_with fail
          refine (kcNeed1 _ _ _ hS hC).mono ?_
          rintro e yy ⟨rfl, hb⟩
          replace jB := bwS jB (Nat.le_refl _) hb
          clear hb hS hC
          go_wp2_with fail
          refine (kplate_any _).mono ?_
          rintro e yy ⟨vS, vC, rfl, hS, hC, hb⟩
          replace jB := bwS jB (Nat.le_refl _) hb
          clear hb
          go_wp2_with fail
          refine (kcNeed2 _ _ _ hS hC).mono ?_
          rintro e yy ⟨rfl, hb⟩
          replace jB := bwS jB (Nat.le_refl _) hb
          clear hb hS hC
          go_wp2_with fail
          refine (kplate_any _).mono ?_
          rintro e yy ⟨vS, vC, rfl, hS, hC, hb⟩
          replace jB := bwS jB (Nat.le_refl _) hb
          clear hb
          go_wp2_with fail
          refine (kcStand1 _ _ _ hS hC).mono ?_
          rintro e yy ⟨rfl, hb⟩
          replace jB := bwS jB (Nat.le_refl _) hb
          clear hb hS hC
          go_wp2_with fail
          refine (kplate_any _).mono ?_
          rintro e yy ⟨vS, vC, rfl, hS, hC, hb⟩
          replace jB := bwS jB (Nat.le_refl _) hb
          clear hb
          go_wp2_with fail
          refine (kcStand2 _ _ _ hS hC).mono ?_
          rintro e yy ⟨rfl, hb⟩
          replace jB := bwS jB (Nat.le_refl _) hb
          clear hb hS hC
          go_wp2_with fail
          refine (awake_any _).mono ?_
          rintro e yy ⟨rfl, hb⟩
          replace jB := bwS jB (Nat.le_refl _) hb
          clear hb
          go_wp2_with fail
          refine (kplate_any _).mono ?_
          rintro e yy ⟨vS, vC, rfl, hS, hC, hb⟩
          replace jB := bwS jB (Nat.le_refl _) hb
          clear hb
          go_wp2_with fail
          refine (kcCheck0 _ _ _ hS hC).mono ?_
          rintro e yy ⟨rfl, hb⟩
          replace jB := bwS jB (Nat.le_refl _) hb
          clear hb hS hC
          go_wp2_with fail
          refine (kholds_any _).mono ?_
          rintro e yy ⟨rfl, hb⟩
          replace jB := bwS jB (Nat.le_refl _) hb
          clear hb
          go_wp2_with fail
          refine (kgaps_any _).mono ?_
          rintro e yy ⟨rfl, hb⟩
          replace jB := bwS jB (Nat.le_refl _) hb
          clear hb
          go_wp2_with fail
          refine (kspeeds_any _).mono ?_
          rintro e yy ⟨rfl, hb⟩
          replace jB := bwS jB (Nat.le_refl _) hb
          clear hb
          go_wp2
          go_ret
          exact ⟨rfl, jB⟩
end Go.Proofs.Ytkkljbbgaogifaa

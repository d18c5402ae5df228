/-
  What knownOf (package fuel) leans on between two sets.
-/
import Derived.RangeFuncBox
import Derived.Test.YtpeogfcfiabcfaaIter
import Derived.Test.YtpeogfcfiabcfaaRange
import Derived.Test.YtpeogfcfiabcfaaReg
import Derived.Test.YtpeogfcfiabcfaaNar
import Derived.Test.YtpeogfcfiabcfaaFlw
set_option linter.unusedVariables false
set_option linter.unusedSimpArgs false
namespace Go.Proofs.Ytpeogfcfiabcfaa
open Go.RowKit Go.Shelf

structure KnS (w : World) (b5 b6 bk bf capk capf bc m d l : Nat) (ll dl : Obj) (N : Nat) (E : Nat → Fl) (A B : Nat → Int) (W : World) : Prop where
  old : Below w.heap.size w W
  res : Blk W (w.heap.size + 1) #[.slice none 0 0] 33
  err : Blk W (w.heap.size + 1 + 1) #[.int .i64 0] 35
  c5 : Blk W b5 #[.slice (some ⟨bf, 0, none⟩) N capf] 142
  c6 : Blk W b6 #[.slice (some ⟨bk, 0, none⟩) N capk] 33
  fls : ∃ C, Blk W bf C 145 ∧ ∀ i j u, i < N → (flC E i)[j]? = some u → C[i * 4 + j]? = some u
  kn : KnAt W bk N A B
  cnt : Blk W bc #[.int .i64 m] 3
  loop : W.heap[l]? = some ll
  dfr : W.heap[d]? = some dl
theorem heap_later {W W' : World} {b : Nat} {o : Obj} (h : W.heap[b]? = some o) (hb : Below W.heap.size W W') : W'.heap[b]? = some o := (hb.block _ (Array.getElem?_eq_some_iff.1 h).1).trans h
theorem KnS.call {w : World} {b5 b6 bk bf capk capf bc m d l : Nat} {ll dl : Obj} {N : Nat} {E : Nat → Fl} {A B : Nat → Int} {W W' : World} (h : KnS w b5 b6 bk bf capk capf bc m d l ll dl N E A B W) (hb : Below W.heap.size W W') : KnS w b5 b6 bk bf capk capf bc m d l ll dl N E A B W' := by
  obtain ⟨C, h1, h2⟩ := h.fls
  exact ⟨bwS h.old (Nat.le_refl _) hb, h.res.call hb, h.err.call hb, h.c5.call hb, h.c6.call hb, ⟨C, h1.call hb, h2⟩, h.kn.later hb, h.cnt.call hb, heap_later h.loop hb, heap_later h.dfr hb⟩
theorem KnAt.neObj {w : World} {b n : Nat} {A B : Nat → Int} (h : KnAt w b n A B) {c : Nat} {o : Obj} (hc : w.heap[c]? = some o) (ho : ∀ C, o ≠ .cells C 26 (0, 0)) : c ≠ b := by
  rintro rfl
  obtain ⟨C, hC, _⟩ := h
  unfold Blk at hC
  rw [hC] at hc
  simp only [Option.some.injEq] at hc
  exact ho C hc.symm
theorem KnS.nar {w : World} {b5 b6 bk bf capk capf bc m d l : Nat} {ll dl : Obj} {N : Nat} {E : Nat → Fl} {A B A' B' : Nat → Int} {W W' : World} (h : KnS w b5 b6 bk bf capk capf bc m d l ll dl N E A B W) (hbk : w.heap.size ≤ bk) (hll : ∀ C, ll ≠ .cells C 26 (0, 0)) (hdl : ∀ C, dl ≠ .cells C 26 (0, 0))
    (hg : W.grownBy W' (some bk)) (hK : KnAt W' bk N A' B') : KnS w b5 b6 bk bf capk capf bc m d l ll dl N E A' B' W' := by
  obtain ⟨C, h1, h2⟩ := h.fls
  have mv : ∀ {b : Nat} {D : Array Value} {t : TypeId}, Blk W b D t → t ≠ 26 → Blk W' b D t := fun {b D t} hD ht => (hg.block b hD.lt (by have := h.kn.ne hD ht; simp; omega)).trans hD
  have mo : ∀ {b : Nat} {o : Obj}, W.heap[b]? = some o → (∀ C, o ≠ .cells C 26 (0, 0)) → W'.heap[b]? = some o := fun {b o} ho hn => (hg.block b (Array.getElem?_eq_some_iff.1 ho).1 (by have := h.kn.neObj ho hn; simpa using this)).trans ho
  exact ⟨below_grown h.old hg hbk, mv h.res (by decide), mv h.err (by decide), mv h.c5 (by decide), mv h.c6 (by decide), ⟨C, mv h1 (by decide), h2⟩, hK, mv h.cnt (by decide), mo h.loop hll, mo h.dfr hdl⟩
theorem KnS.flsG {w : World} {b5 b6 bk bf capk capf bc m d l : Nat} {ll dl : Obj} {N : Nat} {E : Nat → Fl} {A B : Nat → Int} {U W : World} (h : KnS w b5 b6 bk bf capk capf bc m d l ll dl N E A B U) (h1 : N ≤ capf) (h2 : capf ≤ 9223372036854775807) (g : U.grownBy W (some bk)) : FlsAt W (.slice (some ⟨bf, 0, none⟩) N capf) N E := by
  obtain ⟨C, g1, g2⟩ := h.fls
  have g3 : Blk W bf C _ := (g.block bf g1.lt (by have := h.kn.ne g1 (by decide); simp; omega)).trans g1
  exact ⟨_, _, rfl, h1, h2, fun _ => ⟨bf, 0, rfl, fun i j u hi hu => by rw [Nat.zero_add]; exact g3.cell _ (g2 i j u hi hu)⟩⟩
theorem HasAt.grown {U W : World} {bh s bk N : Nat} {A B : Nat → Int} (h : HasAt U bh s) (k : KnAt U bk N A B) (g : U.grownBy W (some bk)) : HasAt W bh s := by
  obtain ⟨bm, h1, h2⟩ := h
  exact ⟨bm, (g.block bh h1.lt (by have := k.ne h1 (by decide); simp; omega)).trans h1, (g.block bm h2.lt (by have := k.ne h2 (by decide); simp; omega)).trans h2⟩
theorem clash_yes (w : World) : Calls Try.prog 85 #[.bool true] w fun e w' => e = .returned (.int .i64 0) ∧ w = w' := clash_any true w
theorem KnS.put {w : World} {b5 b6 bk bf capk capf bc m d l : Nat} {ll dl : Obj} {N : Nat} {E : Nat → Fl} {A B : Nat → Int} {W : World} (h : KnS w b5 b6 bk bf capk capf bc m d l ll dl N E A B W) (hl : w.heap.size ≤ l) (hll : ∀ C t, ll ≠ .cells C t (0, 0)) (hld : l ≠ d) (ll' : Obj) : KnS w b5 b6 bk bf capk capf bc m d l ll' dl N E A B (W.putObj l ll') := by
  obtain ⟨C, h1, h2⟩ := h.fls
  have zl := (Array.getElem?_eq_some_iff.1 h.loop).1
  have mv : ∀ {b : Nat} {D : Array Value} {t : TypeId}, Blk W b D t → Blk (W.putObj l ll') b D t := by
    intro b D t hD
    refine (World.putObj_heap_other (fun e => ?_)).trans hD
    have h3 := h.loop
    have h4 : W.heap[b]? = some (.cells D t (0, 0)) := hD
    first | rw [e] at h4 | rw [← e] at h4
    rw [h4] at h3
    simp only [Option.some.injEq] at h3
    exact hll D t h3.symm
  obtain ⟨CK, k1, k2⟩ := h.kn
  exact ⟨h.old.trans ⟨rfl, rfl, rfl, by simp, fun k hk => World.putObj_heap_other (by omega)⟩, mv h.res, mv h.err, mv h.c5, mv h.c6, ⟨C, mv h1, h2⟩, ⟨CK, mv k1, k2⟩, mv h.cnt, World.putObj_heap_same zl, (World.putObj_heap_other (by first | exact hld | exact hld.symm)).trans h.dfr⟩
theorem KnS.at {w : World} {b5 b6 bk bf capk capf bc m d l : Nat} {ll dl : Obj} {N : Nat} {E : Nat → Fl} {A B : Nat → Int} {W : World} (h : KnS w b5 b6 bk bf capk capf bc m d l ll dl N E A B W) (h1 : N ≤ capf) (h2 : capf ≤ 9223372036854775807) : FlsAt W (.slice (some ⟨bf, 0, none⟩) N capf) N E := by
  obtain ⟨C, g1, g2⟩ := h.fls
  exact ⟨_, _, rfl, h1, h2, fun _ => ⟨bf, 0, rfl, fun i j u hi hu => by rw [Nat.zero_add]; exact g1.cell _ (g2 i j u hi hu)⟩⟩
def knA (E : Nat → Fl) (N : Nat) : Nat → (Nat → Int) × (Nat → Int)
  | 0 => (fun i => (E i).l, fun i => (E i).h)
  | s + 1 => (nrA E (cOut (bS s)) (iLo E N (bS s)) (oHi E N (bS s)) (nrA E (cIn (bS s)) (oLo E N (bS s)) (iHi E N (bS s)) (knA E N s).1 N) N,
    nrB E (cOut (bS s)) (iHi E N (bS s)) (oLo E N (bS s)) (nrB E (cIn (bS s)) (oHi E N (bS s)) (iLo E N (bS s)) (knA E N s).2 N) N)
end Go.Proofs.Ytpeogfcfiabcfaa

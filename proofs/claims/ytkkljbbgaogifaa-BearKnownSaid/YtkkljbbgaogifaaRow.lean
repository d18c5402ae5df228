/-
  Lists that the code makes by append: their rows in memory, general in the element's size.
-/
import Derived.Test.YtkkljbbgaogifaaSpan
import Derived.Test.YtkkljbbgaogifaaTab
import Derived.IntWalk
set_option linter.unusedVariables false
set_option linter.unusedSimpArgs false
namespace Go.Proofs.Ytkkljbbgaogifaa
open Go.RowKit

theorem grown_of_below {w w' : World} (h : Below w.heap.size w w') : w.grownBy w' none := ⟨h.os, h.tape, h.output, h.size, fun k hk _ => h.block k hk⟩
theorem row_call {w w' : World} {base s n : Nat} {e : TypeId} {v : Value} {xs : List Value} (h : w.ownsRow base e s v n xs) (hb : Below w.heap.size w w') : w'.ownsRow base e s v n xs := by
  refine h.kept (grown_of_below hb) ?_
  rcases h.2 with ⟨rfl, _⟩ | ⟨g, cap, cur, rfl, _⟩
  · exact .inl rfl
  · exact .inr (by simp [Value.ownBlock])
theorem ownsRow_base {w : World} {b1 b2 : Nat} {e : TypeId} {size : Nat} {v : Value} {n : Nat} {xs : List Value} (h : w.ownsRow b2 e size v n xs) (hb : b1 ≤ b2) : w.ownsRow b1 e size v n xs := by
  obtain ⟨h1, h2⟩ := h
  rcases h2 with h2 | ⟨g, cap, cur, hv, hg, r⟩
  · exact ⟨h1, .inl h2⟩
  · exact ⟨h1, .inr ⟨g, cap, cur, hv, Nat.le_trans hb hg, r⟩⟩

def catC (C : Nat → List Value) : Nat → List Value
  | 0 => []
  | k + 1 => catC C k ++ C k
theorem catC_congr {C D : Nat → List Value} : ∀ k, (∀ i, i < k → C i = D i) → catC C k = catC D k
  | 0, _ => rfl
  | k + 1, h => by rw [catC, catC, catC_congr k (fun i hi => h i (by omega)), h k (by omega)]
theorem catC_len (C : Nat → List Value) (s : Nat) (hs : ∀ i, (C i).length = s) : ∀ k, (catC C k).length = k * s
  | 0 => by simp [catC]
  | k + 1 => by rw [catC, List.length_append, catC_len C s hs k, hs k, Nat.add_mul]; omega
theorem catC_at (C : Nat → List Value) (s : Nat) (hs : ∀ i, (C i).length = s) (i j : Nat) (hj : j < s) : ∀ m, i < m → (catC C m)[i * s + j]? = (C i)[j]?
  | 0, h => by omega
  | k + 1, h => by
    rw [catC]
    have hl := catC_len C s hs k
    by_cases hik : i < k
    · have : (i + 1) * s ≤ k * s := Nat.mul_le_mul (by omega) (Nat.le_refl s)
      rw [Nat.add_mul] at this
      rw [List.getElem?_append_left (by omega)]
      exact catC_at C s hs i j hj k hik
    · obtain rfl : i = k := by omega
      rw [List.getElem?_append_right (by omega), hl]
      congr 1
      omega
def upI (f : Nat → Int) (k : Nat) (v : Int) : Nat → Int := fun i => if i = k then v else f i
theorem upI_at (f : Nat → Int) (k : Nat) (v : Int) : upI f k v k = v := if_pos rfl
theorem upI_ne (f : Nat → Int) (k i : Nat) (v : Int) (h : i ≠ k) : upI f k v i = f i := if_neg h
def intC (x : Nat → Int) (i : Nat) : List Value := [.int .i64 (x i)]
def pairC (A B : Nat → Int) (i : Nat) : List Value := [.int .i64 (A i), .int .i64 (B i)]
def loadC (L : Nat → Ld) (i : Nat) : List Value := [.int .i64 (L i).me, .int .i64 (L i).w0, .int .i64 (L i).w1, .int .i64 (L i).st]
theorem intC_up (x : Nat → Int) (k : Nat) (a : Int) : catC (intC (upI x k a)) (k + 1) = catC (intC x) k ++ [.int .i64 a] := by
  rw [catC, catC_congr (D := intC x) k (fun i hi => by simp only [intC, upI_ne _ _ _ _ (show i ≠ k by omega)])]
  simp only [intC, upI_at]
theorem pairC_up (A B : Nat → Int) (k : Nat) (a b : Int) : catC (pairC (upI A k a) (upI B k b)) (k + 1) = catC (pairC A B) k ++ [.int .i64 a, .int .i64 b] := by
  rw [catC, catC_congr (D := pairC A B) k (fun i hi => by simp only [pairC, upI_ne _ _ _ _ (show i ≠ k by omega)])]
  simp only [pairC, upI_at]
def upL (f : Nat → Ld) (k : Nat) (v : Ld) : Nat → Ld := fun i => if i = k then v else f i
theorem upL_at (f : Nat → Ld) (k : Nat) (v : Ld) : upL f k v k = v := if_pos rfl
theorem upL_ne (f : Nat → Ld) (k i : Nat) (v : Ld) (h : i ≠ k) : upL f k v i = f i := if_neg h
theorem loadC_up (L : Nat → Ld) (k : Nat) (x : Ld) : catC (loadC (upL L k x)) (k + 1) = catC (loadC L) k ++ [.int .i64 x.me, .int .i64 x.w0, .int .i64 x.w1, .int .i64 x.st] := by
  rw [catC, catC_congr (D := loadC L) k (fun i hi => by simp only [loadC, upL_ne _ _ _ _ (show i ≠ k by omega)])]
  simp only [loadC, upL_at]
theorem row_at {W : World} {base s : Nat} {e : TypeId} {v : Value} {m : Nat} {xs : List Value} (h : W.ownsRow base e s v m xs) (hs : 0 < s) :
    ∃ a cap, v = .slice a m cap ∧ m ≤ cap ∧ cap ≤ 9223372036854775807 ∧ (0 < m → ∃ b, a = some ⟨b, 0, none⟩ ∧ ∀ i j, i < m → j < s → W.cell? ⟨b, 0 + i * s + j, none⟩ = xs[i * s + j]?) := by
  obtain ⟨_, h2⟩ := h
  rcases h2 with ⟨hv, h2⟩ | ⟨g, cap, cur, hv, hg, hc, hn, hm, hz, ht⟩
  · exact ⟨none, 0, by rw [hv, h2], by omega, by omega, fun h => by omega⟩
  · unfold maxLen at hm
    refine ⟨_, cap, hv, hn, by omega, fun _ => ⟨g, rfl, fun i j hi hj => ?_⟩⟩
    have hij : i * s + j < m * s := by
      have : (i + 1) * s ≤ m * s := Nat.mul_le_mul (by omega) (Nat.le_refl s)
      rw [Nat.add_mul] at this
      omega
    have e1 : cur[i * s + j]? = xs[i * s + j]? := by
      rw [← ht, List.getElem?_take_of_lt hij]
      simp
    rw [← e1, Nat.zero_add]
    have h' : W.heap[g]? = some (.cells cur e (0, 0)) := hc
    simp [World.cell?, h']

theorem ints_of_row {W : World} {base : Nat} {t : TypeId} {v : Value} {m : Nat} {x : Nat → Int} (h : W.ownsRow base t 1 v m (catC (intC x) m)) : IntsAt W v m x := by
  obtain ⟨a, cap, hv, h1, h2, h3⟩ := row_at h (by decide)
  refine ⟨a, cap, hv, h1, h2, fun h0 => ?_⟩
  obtain ⟨b, ha, hc⟩ := h3 h0
  refine ⟨b, 0, ha, fun i hi => ?_⟩
  have q := (hc i 0 hi (by decide)).trans (catC_at (intC x) 1 (fun _ => rfl) i 0 (by decide) m hi)
  simpa [intC] using q
theorem pairs_of_row {W : World} {base : Nat} {t : TypeId} {v : Value} {m : Nat} {A B : Nat → Int} (h : W.ownsRow base t 2 v m (catC (pairC A B) m)) : PairsAt W v m A B := by
  obtain ⟨a, cap, hv, h1, h2, h3⟩ := row_at h (by decide)
  refine ⟨a, cap, hv, h1, h2, fun h0 => ?_⟩
  obtain ⟨b, ha, hc⟩ := h3 h0
  exact ⟨b, 0, ha, fun i hi => ⟨(hc i 0 hi (by decide)).trans (catC_at (pairC A B) 2 (fun _ => rfl) i 0 (by decide) m hi), (hc i 1 hi (by decide)).trans (catC_at (pairC A B) 2 (fun _ => rfl) i 1 (by decide) m hi)⟩⟩
theorem loads_of_row {W : World} {base : Nat} {t : TypeId} {v : Value} {m : Nat} {L : Nat → Ld} (h : W.ownsRow base t 4 v m (catC (loadC L) m)) : LoadsAt W v m L := by
  obtain ⟨a, cap, hv, h1, h2, h3⟩ := row_at h (by decide)
  refine ⟨a, cap, hv, h1, h2, fun h0 => ?_⟩
  obtain ⟨b, ha, hc⟩ := h3 h0
  exact ⟨b, 0, ha, fun i hi => ⟨(hc i 0 hi (by decide)).trans (catC_at (loadC L) 4 (fun _ => rfl) i 0 (by decide) m hi), (hc i 1 hi (by decide)).trans (catC_at (loadC L) 4 (fun _ => rfl) i 1 (by decide) m hi), (hc i 2 hi (by decide)).trans (catC_at (loadC L) 4 (fun _ => rfl) i 2 (by decide) m hi), (hc i 3 hi (by decide)).trans (catC_at (loadC L) 4 (fun _ => rfl) i 3 (by decide) m hi)⟩⟩
theorem news1 (W : World) (a : Int) (t : TypeId) : ∀ (j : Nat) (u : Value), [Value.int .i64 a][j]? = some u → (W.alloc (.cells #[.int .i64 a] t)).cell? ((⟨W.heap.size, 0, none⟩ : Addr).add j) = some u := by
  intro j u h
  have hk := Blk.new W #[.int .i64 a] t
  have e : (⟨W.heap.size, 0, none⟩ : Addr).add j = ⟨W.heap.size, j, none⟩ := by simp [Addr.add]; intro hj; exact hj.symm
  rw [e]
  exact hk.cell j (by simpa using h)
theorem one1 (a : Int) : ∀ u ∈ [Value.int .i64 a], u.oneCell' = true := by
  intro u h
  simp only [List.mem_cons, List.not_mem_nil, or_false] at h
  rcases h with rfl <;> rfl
theorem news2 (W : World) (a b : Int) (t : TypeId) : ∀ (j : Nat) (u : Value), [Value.int .i64 a, .int .i64 b][j]? = some u → (W.alloc (.cells #[.int .i64 a, .int .i64 b] t)).cell? ((⟨W.heap.size, 0, none⟩ : Addr).add j) = some u := by
  intro j u h
  have hk := Blk.new W #[.int .i64 a, .int .i64 b] t
  have e : (⟨W.heap.size, 0, none⟩ : Addr).add j = ⟨W.heap.size, j, none⟩ := by simp [Addr.add]; intro hj; exact hj.symm
  rw [e]
  exact hk.cell j (by simpa using h)
theorem one2 (a b : Int) : ∀ u ∈ [Value.int .i64 a, .int .i64 b], u.oneCell' = true := by
  intro u h
  simp only [List.mem_cons, List.not_mem_nil, or_false] at h
  rcases h with rfl | rfl <;> rfl
theorem news4 (W : World) (a b c d : Int) (t : TypeId) : ∀ (j : Nat) (u : Value), [Value.int .i64 a, .int .i64 b, .int .i64 c, .int .i64 d][j]? = some u → (W.alloc (.cells #[.int .i64 a, .int .i64 b, .int .i64 c, .int .i64 d] t)).cell? ((⟨W.heap.size, 0, none⟩ : Addr).add j) = some u := by
  intro j u h
  have hk := Blk.new W #[.int .i64 a, .int .i64 b, .int .i64 c, .int .i64 d] t
  have e : (⟨W.heap.size, 0, none⟩ : Addr).add j = ⟨W.heap.size, j, none⟩ := by simp [Addr.add]; intro hj; exact hj.symm
  rw [e]
  exact hk.cell j (by simpa using h)
theorem one4 (a b c d : Int) : ∀ u ∈ [Value.int .i64 a, .int .i64 b, .int .i64 c, .int .i64 d], u.oneCell' = true := by
  intro u h
  simp only [List.mem_cons, List.not_mem_nil, or_false] at h
  rcases h with rfl | rfl | rfl | rfl <;> rfl
theorem Try.infoShare : (Try.prog.info? 68).map (fun i => (i.zero, i.size, i.bytes)) = some (some (.agg #[.int .i64 0, .int .i64 0]), 2, 16) := by kernel_rfl
theorem Try.infoSpan : (Try.prog.info? 23).map (fun i => (i.zero, i.size, i.bytes)) = some (some (.agg #[.int .i64 0, .int .i64 0]), 2, 16) := by kernel_rfl
theorem Try.infoInt : (Try.prog.info? 3).map (fun i => (i.zero, i.size, i.bytes)) = some (some (.int .i64 0), 1, 8) := by kernel_rfl
theorem Try.infoLoad : (Try.prog.info? 53).map (fun i => (i.zero, i.size, i.bytes)) = some (some (.agg #[.int .i64 0, .int .i64 0, .int .i64 0, .int .i64 0]), 4, 32) := by kernel_rfl
theorem Eight.drawn {bs b : Nat} {t : TypeId} {w v : World} (g : Drawn bs w v) (h : Eight w b t) (hne : b ≠ bs) : Eight v b t := by
  obtain ⟨x0, x1, x2, x3, x4, x5, x6, x7, h⟩ := h
  exact ⟨x0, x1, x2, x3, x4, x5, x6, x7, g.blk h hne⟩
theorem Drawn.row {bs : Nat} {w w' : World} {base : Nat} {e : TypeId} {size : Nat} {v : Value} {n : Nat} {xs : List Value} (g : Drawn bs w w') (h : w.ownsRow base e size v n xs) (hb : bs < base) : w'.ownsRow base e size v n xs :=
  h.kept g.2 (by
    cases hv : v.ownBlock with
    | none => exact .inl rfl
    | some k => exact .inr (fun e => by
        have := (h.lt k hv).1
        simp only [Option.some.injEq] at e
        omega))
theorem Blk.grown {w w' : World} {r : Option Nat} {b : Nat} {C : Array Value} {t : TypeId} (h : Blk w b C t) (g : w.grownBy w' r) (hr : ∀ k, r = some k → b < k) : Blk w' b C t :=
  (g.block b h.lt (fun e => by have := hr b e.symm; omega)).trans h
theorem Eight.grown {w w' : World} {r : Option Nat} {b : Nat} {t : TypeId} (h : Eight w b t) (g : w.grownBy w' r) (hr : ∀ k, r = some k → b < k) : Eight w' b t := by
  obtain ⟨x0, x1, x2, x3, x4, x5, x6, x7, h⟩ := h
  exact ⟨x0, x1, x2, x3, x4, x5, x6, x7, h.grown g hr⟩
theorem Drawn.grown {bs : Nat} {w V W : World} {r : Option Nat} (h : Drawn bs w V) (g : V.grownBy W r) (hr : ∀ k, r = some k → w.heap.size ≤ k) (hb : bs < w.heap.size) : Drawn bs w W := by
  obtain ⟨⟨u, hu⟩, hg⟩ := h
  refine ⟨⟨u, hu.grown g (fun k e => by have := hr k e; omega)⟩, g.os.trans hg.os, g.tape.trans hg.tape, g.output.trans hg.output, Nat.le_trans hg.size g.size, fun k hk hne => ?_⟩
  exact (g.block k (Nat.lt_of_lt_of_le hk hg.size) (fun e => by have := hr k e.symm; omega)).trans (hg.block k hk hne)
theorem Two.drawn {bs b : Nat} {t : TypeId} {w v : World} (g : Drawn bs w v) (h : Two w b t) (hne : b ≠ bs) : Two v b t := by
  obtain ⟨p, q, h⟩ := h
  exact ⟨p, q, g.blk h hne⟩

theorem Drawn.after {bs : Nat} {w v v' : World} (h : Drawn bs w v) (hb : Below v.heap.size v v') : Drawn bs w v' := by
  obtain ⟨⟨u, hu⟩, g⟩ := h
  exact ⟨⟨u, hu.call hb⟩, grownBy_trans g ⟨hb.os, hb.tape, hb.output, hb.size, fun k hk _ => hb.block k hk⟩⟩

end Go.Proofs.Ytkkljbbgaogifaa

/-
  Lists that the code makes by append: their rows in memory, general in the element's size.
-/
import Derived.Test.YtpeogfcfiabcfaaSpan
import Derived.Test.YtpeogfcfiabcfaaTab
import Derived.IntWalk
set_option linter.unusedVariables false
set_option linter.unusedSimpArgs false
namespace Go.Proofs.Ytpeogfcfiabcfaa
open Go.RowKit

theorem grown_of_below {w w' : World} (h : Below w.heap.size w w') : w.grownBy w' none := ⟨h.os, h.tape, h.output, h.size, fun k hk _ => h.block k hk⟩
theorem row_call {w w' : World} {base s n : Nat} {e : TypeId} {v : Value} {xs : List Value} (h : w.ownsRow base e s v n xs) (hb : Below w.heap.size w w') : w'.ownsRow base e s v n xs := by
  refine h.kept (grown_of_below hb) ?_
  rcases h.2 with ⟨rfl, _⟩ | ⟨g, cap, cur, rfl, _⟩
  · exact .inl rfl
  · exact .inr (by simp [Value.ownBlock])
theorem ownsRow_base {w : World} {b1 b2 : Nat} {e : TypeId} {size : Nat} {v : Value} {n : Nat} {xs : List Value} (h : w.ownsRow b2 e size v n xs) (hb : b1 ≤ b2) : w.ownsRow b1 e size v n xs := by
  obtain ⟨h1, h2⟩ := h
  rcases h2 with h2 | ⟨g, cap, cur, hv, hg, r⟩
  · exact ⟨h1, .inl h2⟩
  · exact ⟨h1, .inr ⟨g, cap, cur, hv, Nat.le_trans hb hg, r⟩⟩

def catC (C : Nat → List Value) : Nat → List Value
  | 0 => []
  | k + 1 => catC C k ++ C k
theorem catC_congr {C D : Nat → List Value} : ∀ k, (∀ i, i < k → C i = D i) → catC C k = catC D k
  | 0, _ => rfl
  | k + 1, h => by rw [catC, catC, catC_congr k (fun i hi => h i (by omega)), h k (by omega)]
theorem catC_len (C : Nat → List Value) (s : Nat) : ∀ k, (∀ i, i < k → (C i).length = s) → (catC C k).length = k * s
  | 0, _ => by simp [catC]
  | k + 1, hs => by rw [catC, List.length_append, catC_len C s k (fun i hi => hs i (by omega)), hs k (by omega), Nat.add_mul]; omega
theorem catC_at (C : Nat → List Value) (s : Nat) (i j : Nat) (hj : j < s) : ∀ m, (∀ i, i < m → (C i).length = s) → i < m → (catC C m)[i * s + j]? = (C i)[j]?
  | 0, _, h => by omega
  | k + 1, hs, h => by
    rw [catC]
    have hl := catC_len C s k (fun i hi => hs i (by omega))
    by_cases hik : i < k
    · have : (i + 1) * s ≤ k * s := Nat.mul_le_mul (by omega) (Nat.le_refl s)
      rw [Nat.add_mul] at this
      rw [List.getElem?_append_left (by omega)]
      exact catC_at C s i j hj k (fun i hi => hs i (by omega)) hik
    · obtain rfl : i = k := by omega
      rw [List.getElem?_append_right (by omega), hl]
      congr 1
      omega
theorem row_at {W : World} {base s : Nat} {e : TypeId} {v : Value} {m : Nat} {xs : List Value} (h : W.ownsRow base e s v m xs) (hs : 0 < s) :
    ∃ a cap, v = .slice a m cap ∧ m ≤ cap ∧ cap ≤ 9223372036854775807 ∧ (0 < m → ∃ b, a = some ⟨b, 0, none⟩ ∧ ∀ i j, i < m → j < s → W.cell? ⟨b, 0 + i * s + j, none⟩ = xs[i * s + j]?) := by
  obtain ⟨_, h2⟩ := h
  rcases h2 with ⟨hv, h2⟩ | ⟨g, cap, cur, hv, hg, hc, hn, hm, hz, ht⟩
  · exact ⟨none, 0, by rw [hv, h2], by omega, by omega, fun h => by omega⟩
  · unfold maxLen at hm
    refine ⟨_, cap, hv, hn, by omega, fun _ => ⟨g, rfl, fun i j hi hj => ?_⟩⟩
    have hij : i * s + j < m * s := by
      have : (i + 1) * s ≤ m * s := Nat.mul_le_mul (by omega) (Nat.le_refl s)
      rw [Nat.add_mul] at this
      omega
    have e1 : cur[i * s + j]? = xs[i * s + j]? := by
      rw [← ht, List.getElem?_take_of_lt hij]
      simp
    rw [← e1, Nat.zero_add]
    have h' : W.heap[g]? = some (.cells cur e (0, 0)) := hc
    simp [World.cell?, h']
theorem lat_of_row {W : World} {base s : Nat} {t : TypeId} {v : Value} {m : Nat} {C : Nat → List Value} (h : W.ownsRow base t s v m (catC C m)) (hs : 0 < s) (hC : ∀ i, i < m → (C i).length = s) : LAt W v m s C := by
  obtain ⟨a, cap, hv, h1, h2, h3⟩ := row_at h hs
  refine ⟨a, cap, hv, h1, h2, fun h0 => ?_⟩
  obtain ⟨b, ha, hc⟩ := h3 h0
  refine ⟨b, 0, ha, fun i j u hi hu => ?_⟩
  have hj : j < s := by
    have := (List.getElem?_eq_some_iff.1 hu).1
    rw [hC i hi] at this
    exact this
  exact (hc i j hi hj).trans ((catC_at C s i j hj m hC hi).trans hu)
theorem blk_of_row {W : World} {base s : Nat} {t : TypeId} {v : Value} {m : Nat} {xs : List Value} (h : W.ownsRow base t s v m xs) (h0 : 0 < m) : ∃ g cap cur, v = .slice (some ⟨g, 0, none⟩) m cap ∧ base ≤ g ∧ m ≤ cap ∧ cap ≤ 9223372036854775807 ∧ Blk W g cur t ∧ ∀ j, j < m * s → cur[j]? = xs[j]? := by
  obtain ⟨_, h2⟩ := h
  rcases h2 with ⟨hv, h2⟩ | ⟨g, cap, cur, hv, hg, hc, hn, hm, hz, ht⟩
  · omega
  · unfold maxLen at hm
    refine ⟨g, cap, cur, hv, hg, hn, by omega, hc, fun j hj => ?_⟩
    rw [← ht, List.getElem?_take_of_lt hj]
    simp
theorem newsN (W : World) (l : List Value) (t : TypeId) : ∀ (j : Nat) (u : Value), l[j]? = some u → (W.alloc (.cells l.toArray t)).cell? ((⟨W.heap.size, 0, none⟩ : Addr).add j) = some u := by
  intro j u h
  have hk := Blk.new W l.toArray t
  have e : (⟨W.heap.size, 0, none⟩ : Addr).add j = ⟨W.heap.size, j, none⟩ := by simp [Addr.add]; intro hj; exact hj.symm
  rw [e]
  exact hk.cell j (by simpa using h)
theorem one1 (a : Int) : ∀ u ∈ [Value.int .i64 a], u.oneCell' = true := by
  intro u h
  simp only [List.mem_cons, List.not_mem_nil, or_false] at h
  rcases h with rfl <;> rfl
theorem one2 (a b : Int) : ∀ u ∈ [Value.int .i64 a, .int .i64 b], u.oneCell' = true := by
  intro u h
  simp only [List.mem_cons, List.not_mem_nil, or_false] at h
  rcases h with rfl | rfl <;> rfl
theorem one3 (a b c : Int) : ∀ u ∈ [Value.int .i64 a, .int .i64 b, .int .i64 c], u.oneCell' = true := by
  intro u h
  simp only [List.mem_cons, List.not_mem_nil, or_false] at h
  rcases h with rfl | rfl | rfl <;> rfl
theorem one4 (a b c d : Int) : ∀ u ∈ [Value.int .i64 a, .int .i64 b, .int .i64 c, .int .i64 d], u.oneCell' = true := by
  intro u h
  simp only [List.mem_cons, List.not_mem_nil, or_false] at h
  rcases h with rfl | rfl | rfl | rfl <;> rfl
theorem one8 (a b c d e f g i : Int) : ∀ u ∈ [Value.int .i64 a, .int .i64 b, .int .i64 c, .int .i64 d, .int .i64 e, .int .i64 f, .int .i64 g, .int .i64 i], u.oneCell' = true := by
  intro u h
  simp only [List.mem_cons, List.not_mem_nil, or_false] at h
  rcases h with rfl | rfl | rfl | rfl | rfl | rfl | rfl | rfl <;> rfl
theorem Try.infoSpan : (Try.prog.info? 26).map (fun i => (i.zero, i.size, i.bytes)) = some (some (.agg #[.int .i64 0, .int .i64 0]), 2, 16) := by kernel_rfl
theorem Try.infoInt : (Try.prog.info? 3).map (fun i => (i.zero, i.size, i.bytes)) = some (some (.int .i64 0), 1, 8) := by kernel_rfl
theorem Try.infoFlow : (Try.prog.info? 145).map (fun i => (i.zero, i.size, i.bytes)) = some (some (.agg #[.int .i64 0, .int .i64 0, .int .i64 0, .int .i64 0]), 4, 32) := by kernel_rfl
theorem Try.infoBurn : (Try.prog.info? 127).map (fun i => (i.zero, i.size, i.bytes)) = some (some (.agg #[.int .i64 0, .int .i64 0, .int .i64 0]), 3, 24) := by kernel_rfl
theorem Drawn.row {bs : Nat} {w w' : World} {base : Nat} {e : TypeId} {size : Nat} {v : Value} {n : Nat} {xs : List Value} (g : Drawn bs w w') (h : w.ownsRow base e size v n xs) (hb : bs < base) : w'.ownsRow base e size v n xs :=
  h.kept g.2 (by
    cases hv : v.ownBlock with
    | none => exact .inl rfl
    | some k => exact .inr (fun e => by
        have := (h.lt k hv).1
        simp only [Option.some.injEq] at e
        omega))
theorem Blk.grown {w w' : World} {r : Option Nat} {b : Nat} {C : Array Value} {t : TypeId} (h : Blk w b C t) (g : w.grownBy w' r) (hr : ∀ k, r = some k → b < k) : Blk w' b C t :=
  (g.block b h.lt (fun e => by have := hr b e.symm; omega)).trans h
theorem Drawn.grown {bs : Nat} {w V W : World} {r : Option Nat} (h : Drawn bs w V) (g : V.grownBy W r) (hr : ∀ k, r = some k → w.heap.size ≤ k) (hb : bs < w.heap.size) : Drawn bs w W := by
  obtain ⟨⟨u, hu⟩, hg⟩ := h
  refine ⟨⟨u, hu.grown g (fun k e => by have := hr k e; omega)⟩, g.os.trans hg.os, g.tape.trans hg.tape, g.output.trans hg.output, Nat.le_trans hg.size g.size, fun k hk hne => ?_⟩
  exact (g.block k (Nat.lt_of_lt_of_le hk hg.size) (fun e => by have := hr k e.symm; omega)).trans (hg.block k hk hne)
theorem Drawn.after {bs : Nat} {w v v' : World} (h : Drawn bs w v) (hb : Below v.heap.size v v') : Drawn bs w v' := by
  obtain ⟨⟨u, hu⟩, g⟩ := h
  exact ⟨⟨u, hu.call hb⟩, grownBy_trans g ⟨hb.os, hb.tape, hb.output, hb.size, fun k hk _ => hb.block k hk⟩⟩
theorem grown_below {B : Nat} {w V W : World} {r : Option Nat} (h : Below B w V) (g : V.grownBy W r) (hr : ∀ k, r = some k → B ≤ k) (hB : B ≤ w.heap.size) : Below B w W :=
  ⟨g.os.trans h.os, g.tape.trans h.tape, g.output.trans h.output, Nat.le_trans h.size g.size, fun k hk => (g.block k (Nat.lt_of_lt_of_le hk (Nat.le_trans hB h.size)) (fun e => by have := hr k e.symm; omega)).trans (h.block k hk)⟩
theorem blk_row_ne2 {W : World} {b base s n : Nat} {C : Array Value} {t e : TypeId} {v : Value} {xs : List Value} (h : Blk W b C t) (r : W.ownsRow base e s v n xs) (hne : t ≠ e) : ∀ q, v.ownBlock = some q → b ≠ q := by
  intro q hq hb
  subst hb
  obtain ⟨_, h2⟩ := r
  rcases h2 with ⟨rfl, _⟩ | ⟨g, cap, cur, rfl, _, hc, _⟩
  · simp [Value.ownBlock] at hq
  · simp [Value.ownBlock] at hq
    subst hq
    have h' : W.heap[g]? = some (.cells C t (0, 0)) := h
    rw [h'] at hc
    simp at hc
    exact hne hc.2
theorem Blk.grown3 {W W' : World} {b : Nat} {C : Array Value} {t : TypeId} {r : Option Nat} (h : Blk W b C t) (g : W.grownBy W' r) (hne : ∀ k, r = some k → b ≠ k) : Blk W' b C t :=
  (g.block b h.lt (by intro e; exact hne b (by first | exact e | exact e.symm) rfl)).trans h
end Go.Proofs.Ytpeogfcfiabcfaa

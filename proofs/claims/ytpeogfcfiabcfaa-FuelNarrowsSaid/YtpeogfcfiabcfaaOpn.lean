/-
  What came in, opened: spans, lists of spans and of burns.
-/
import Derived.Test.YtpeogfcfiabcfaaTab
import Derived.WalkKit
import Derived.ProofKit
import Derived.OpenShut
import Derived.ShutString
set_option linter.unusedVariables false
set_option linter.unusedSimpArgs false
namespace Go.Proofs.Ytpeogfcfiabcfaa
open Go.ChangeShapes Go.WideShapes Go.ChangeAt Go.RowKit

section
variable {H : Type} {enc : TypeId × Value → H} {w : World} {base : Nat} {spare : Nat → Bool} {held : Bool} {n : Nat} {y : DataW H × List MemPlace}

theorem addr_add' (b o j : Nat) : (⟨b, o, none⟩ : Addr).add j = ⟨b, o + j, none⟩ := by
  unfold Addr.add
  split <;> simp_all
theorem opn_int {c : Value} (h : DataW.trod enc Try.prog w base spare held n 3 [c] = some y) : ∃ a, c = .int .i64 a := by
  obtain ⟨a, e, _, _⟩ := Go.DataW.trod_int Try.underlying3 h
  simp at e
  exact ⟨a, e⟩
set_option maxRecDepth 100000 in
theorem opn_span {c0 c1 : Value} (h : DataW.trod enc Try.prog w base spare held n 26 [c0, c1] = some y) : ∃ a b, c0 = .int .i64 a ∧ c1 = .int .i64 b := by
  have hc : Try.prog.cellsOf 3 = 1 := by kernel_rfl
  obtain ⟨ys, m, _, _, _, hl, hf⟩ := Go.DataW.trod_struct Try.underlying26 h
  match ys, hl with
  | [y0, y1], _ =>
    have h0 := hf 0 _ rfl
    have h1 := hf 1 _ rfl
    simp [hc] at h0 h1
    obtain ⟨a, rfl⟩ := opn_int h0
    obtain ⟨b, rfl⟩ := opn_int h1
    exact ⟨a, b, rfl, rfl⟩
theorem opn_elem {b o i s : Nat} {t : TypeId} {a : Addr} {z : Option (DataW H × List MemPlace)} (hn : 0 < s) (h : (w.cells? base (a.add (i * s)) s).bind (DataW.trod enc Try.prog w base spare held n t) = z) (hz : z.isSome = true) (ha : a = ⟨b, o, none⟩) :
    ∃ cs x, cs.length = s ∧ (∀ j, j < s → w.cell? ⟨b, o + i * s + j, none⟩ = cs[j]?) ∧ DataW.trod enc Try.prog w base spare held n t cs = some x := by
  obtain ⟨x, rfl⟩ := Option.isSome_iff_exists.1 hz
  obtain ⟨cs, hcs, hx⟩ := Option.bind_eq_some_iff.1 h
  obtain ⟨_, hl, hc⟩ := World.cells?_some hcs
  refine ⟨cs, x, hl, fun j hj => ?_, hx⟩
  have q := hc j hj
  rw [ha, addr_add', addr_add'] at q
  exact q
theorem opn_spot {s : Nat} {t : TypeId} {a : Addr} {z : Option (DataW H × List MemPlace)} (hn : 0 < s) (h : (w.cells? base (a.add (0 * s)) s).bind (DataW.trod enc Try.prog w base spare held n t) = z) (hz : z.isSome = true) : a.spot = none := by
  obtain ⟨x, rfl⟩ := Option.isSome_iff_exists.1 hz
  obtain ⟨cs, hcs, hx⟩ := Option.bind_eq_some_iff.1 h
  obtain ⟨_, hl, hc⟩ := World.cells?_some hcs
  have q := hc 0 hn
  have hs : cs[0]? = some (cs[0]'(by omega)) := List.getElem?_eq_getElem _
  rw [hs] at q
  simp [Addr.add] at q
  exact World.cell?_spot q


theorem opn_burn {c0 c1 c2 : Value} (h : DataW.trod enc Try.prog w base spare held n 127 [c0, c1, c2] = some y) : ∃ x : Bu, c0 = .int .i64 x.co ∧ c1 = .int .i64 x.lo ∧ c2 = .int .i64 x.hi := by
  have hc : Try.prog.cellsOf 3 = 1 := by kernel_rfl
  have hs : Try.prog.cellsOf 26 = 2 := by kernel_rfl
  obtain ⟨ys, m, _, _, _, hl, hf⟩ := Go.DataW.trod_struct Try.underlying127 h
  match ys, hl with
  | [y0, y1], _ =>
    have h0 := hf 0 _ rfl
    have h1 := hf 1 _ rfl
    simp [hc, hs] at h0 h1
    obtain ⟨a, rfl⟩ := opn_int h0
    obtain ⟨b, c, rfl, rfl⟩ := opn_span h1
    exact ⟨⟨a, b, c⟩, rfl, rfl, rfl⟩
theorem opn_spans {v : Value} (h : DataW.trod enc Try.prog w base spare held n 33 [v] = some y) : ∃ m A B, SpansAt w v m A B := by
  have hcs : Try.prog.cellsOf 26 = 2 := by kernel_rfl
  rcases DataW.trod_slice Try.underlying33 h with ⟨e, _⟩ | ⟨a, len, cap, elems, rest, k, _, e, _, _, hl, hm, hle, hel, _, _⟩
  · simp at e
    exact ⟨0, fun _ => 0, fun _ => 0, none, 0, e, by omega, by omega, fun h => absurd h (by omega)⟩
  · simp at e
    subst e
    unfold maxLen at hm
    rw [hcs] at hel
    have some_ : ∀ i, i < len → (elems[i]?).isSome = true := fun i hi => by simp; omega
    by_cases h0 : 0 < len
    · have hsp : a.spot = none := opn_spot (by omega) (hel 0 h0) (some_ 0 h0)
      obtain ⟨b, o, sp⟩ := a
      simp only at hsp
      subst hsp
      have hall : ∀ i, ∃ t : Int × Int, i < len → ∀ j u, [Value.int .i64 t.1, .int .i64 t.2][j]? = some u → w.cell? ⟨b, o + i * 2 + j, none⟩ = some u := fun i => by
        by_cases hi : i < len
        · obtain ⟨cs, x, hcl, hcc, hx⟩ := opn_elem (i := i) (by omega) (hel i hi) (some_ i hi) rfl
          match cs, hcl with
          | [c0, c1], _ =>
            obtain ⟨p, q, rfl, rfl⟩ := opn_span hx
            refine ⟨(p, q), fun _ j u hu => ?_⟩
            have hj : j < 2 := by
              have := (List.getElem?_eq_some_iff.1 hu).1
              simpa using this
            rw [hcc j hj]
            exact hu
        · exact ⟨(0, 0), fun h => absurd h hi⟩
      exact ⟨len, fun i => (hall i).choose.1, fun i => (hall i).choose.2, _, cap, rfl, hl, by omega, fun _ => ⟨b, o, rfl, fun i j u hi hu => (hall i).choose_spec hi j u hu⟩⟩
    · exact ⟨len, fun _ => 0, fun _ => 0, _, cap, rfl, hl, by omega, fun h => absurd h h0⟩
theorem opn_burns {v : Value} (h : DataW.trod enc Try.prog w base spare held n 73 [v] = some y) : ∃ m U, BusAt w v m U := by
  have hcs : Try.prog.cellsOf 127 = 3 := by kernel_rfl
  rcases DataW.trod_slice Try.underlying73 h with ⟨e, _⟩ | ⟨a, len, cap, elems, rest, k, _, e, _, _, hl, hm, hle, hel, _, _⟩
  · simp at e
    exact ⟨0, fun _ => ⟨0, 0, 0⟩, none, 0, e, by omega, by omega, fun h => absurd h (by omega)⟩
  · simp at e
    subst e
    unfold maxLen at hm
    rw [hcs] at hel
    have some_ : ∀ i, i < len → (elems[i]?).isSome = true := fun i hi => by simp; omega
    by_cases h0 : 0 < len
    · have hsp : a.spot = none := opn_spot (by omega) (hel 0 h0) (some_ 0 h0)
      obtain ⟨b, o, sp⟩ := a
      simp only at hsp
      subst hsp
      have hall : ∀ i, ∃ t : Bu, i < len → ∀ j u, [Value.int .i64 t.co, .int .i64 t.lo, .int .i64 t.hi][j]? = some u → w.cell? ⟨b, o + i * 3 + j, none⟩ = some u := fun i => by
        by_cases hi : i < len
        · obtain ⟨cs, x, hcl, hcc, hx⟩ := opn_elem (i := i) (by omega) (hel i hi) (some_ i hi) rfl
          match cs, hcl with
          | [c0, c1, c2], _ =>
            obtain ⟨t, rfl, rfl, rfl⟩ := opn_burn hx
            refine ⟨t, fun _ j u hu => ?_⟩
            have hj : j < 3 := by
              have := (List.getElem?_eq_some_iff.1 hu).1
              simpa using this
            rw [hcc j hj]
            exact hu
        · exact ⟨⟨0, 0, 0⟩, fun h => absurd h hi⟩
      exact ⟨len, fun i => (hall i).choose, _, cap, rfl, hl, by omega, fun _ => ⟨b, o, rfl, fun i j u hi hu => (hall i).choose_spec hi j u hu⟩⟩
    · exact ⟨len, fun _ => ⟨0, 0, 0⟩, _, cap, rfl, hl, by omega, fun h => absurd h h0⟩
end
set_option maxRecDepth 100000 in
theorem opn_span1 {H : Type} {enc : TypeId × Value → H} {w : World} {base : Nat} {spare : Nat → Bool} {held : Bool} {b0 : Nat} {r : Reach} {v : Value} {d : DataW H} {p : List MemPlace} (hv : Value.okWide Try.prog w r b0 26 v) (h : DataW.Trod enc Try.prog w base spare held 26 v d p) :
    ∃ a b, v = .agg #[.int .i64 a, .int .i64 b] := by
  have hc2 : Try.prog.cellsOf 26 = 2 := by kernel_rfl
  obtain ⟨cs, rfl, hsz⟩ := okWide_struct Try.underlying26 hv
  rw [hc2] at hsz
  obtain ⟨l⟩ := cs
  match l, hsz with
  | [c0, c1], _ =>
    obtain ⟨fuel, hf⟩ := h
    obtain ⟨a, b, rfl, rfl⟩ := opn_span (show DataW.trod enc Try.prog w base spare held fuel 26 [c0, c1] = some _ from hf)
    exact ⟨a, b, rfl⟩
end Go.Proofs.Ytpeogfcfiabcfaa

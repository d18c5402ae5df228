/-
  What came in, opened: lists of numbers, tanks.
-/
import Derived.Test.YtegdflikeoiaaaaOpn
set_option linter.unusedVariables false
set_option linter.unusedSimpArgs false
namespace Go.Proofs.Ytegdflikeoiaaaa
open Go.ChangeShapes Go.WideShapes Go.ChangeAt Go.RowKit

section
variable {H : Type} {enc : TypeId × Value → H} {w : World} {base : Nat} {spare : Nat → Bool} {held : Bool} {n : Nat} {y : DataW H × List MemPlace}
set_option maxRecDepth 100000 in
theorem opn_ints {v : Value} (h : DataW.trod enc Try.prog w base spare held n 22 [v] = some y) : ∃ m A, IntsAt w v m A := by
  have hcs : Try.prog.cellsOf 3 = 1 := by kernel_rfl
  rcases DataW.trod_slice Try.underlying22 h with ⟨e, _⟩ | ⟨a, len, cap, elems, rest, k, _, e, _, _, hl, hm, hle, hel, _, _⟩
  · simp at e
    exact ⟨0, fun _ => 0, none, 0, e, by omega, by omega, fun h => absurd h (by omega)⟩
  · simp at e
    subst e
    unfold maxLen at hm
    rw [hcs] at hel
    have some_ : ∀ i, i < len → (elems[i]?).isSome = true := fun i hi => by simp; omega
    by_cases h0 : 0 < len
    · have hsp : a.spot = none := opn_spot (by omega) (hel 0 h0) (some_ 0 h0)
      obtain ⟨b, o, sp⟩ := a
      simp only at hsp
      subst hsp
      have hall : ∀ i, ∃ t : Int, i < len → ∀ j u, [Value.int .i64 t][j]? = some u → w.cell? ⟨b, o + i * 1 + j, none⟩ = some u := fun i => by
        by_cases hi : i < len
        · obtain ⟨cs, x, hcl, hcc, hx⟩ := opn_elem (i := i) (by omega) (hel i hi) (some_ i hi) rfl
          match cs, hcl with
          | [c0], _ =>
            obtain ⟨p, rfl⟩ := opn_int hx
            refine ⟨p, fun _ j u hu => ?_⟩
            have hj : j < 1 := by
              have := (List.getElem?_eq_some_iff.1 hu).1
              simpa using this
            rw [hcc j hj]
            exact hu
        · exact ⟨0, fun h => absurd h hi⟩
      exact ⟨len, fun i => (hall i).choose, _, cap, rfl, hl, by omega, fun _ => ⟨b, o, rfl, fun i j u hi hu => (hall i).choose_spec hi j u hu⟩⟩
    · exact ⟨len, fun _ => 0, _, cap, rfl, hl, by omega, fun h => absurd h h0⟩
set_option maxRecDepth 100000 in
theorem opn_tank {b0 : Nat} {r : Reach} {v : Value} {d : DataW H} {p : List MemPlace} (hv : Value.okWide Try.prog w r b0 24 v) (h : DataW.Trod enc Try.prog w base spare held 24 v d p) :
    ∃ (vH vL : Value) (n m : Nat) (X Y : Nat → Int), v = .agg #[vH, vL] ∧ IntsAt w vH n X ∧ IntsAt w vL m Y := by
  have hl1 : Try.prog.cellsOf 22 = 1 := by kernel_rfl
  have hc2 : Try.prog.cellsOf 24 = 2 := by kernel_rfl
  obtain ⟨cs, rfl, hsz⟩ := okWide_struct Try.underlying24 hv
  rw [hc2] at hsz
  obtain ⟨l⟩ := cs
  match l, hsz with
  | [c0, c1], _ =>
    obtain ⟨fuel, hf⟩ := h
    obtain ⟨ys, m, _, _, _, hl, hg⟩ := Go.DataW.trod_struct Try.underlying24 hf
    match ys, hl with
    | [y0, y1], _ =>
      have g0 := hg 0 _ rfl
      have g1 := hg 1 _ rfl
      simp [hl1, Value.cells] at g0 g1
      obtain ⟨nS, FS, hS⟩ := opn_ints g0
      obtain ⟨nC, FC, hC⟩ := opn_ints g1
      exact ⟨c0, c1, nS, nC, FS, FC, rfl, hS, hC⟩
end
end Go.Proofs.Ytegdflikeoiaaaa

/-
  What came in, opened: plates, lists of spans, of shares and of loads.
-/
import Derived.Test.YtfakmggabicdjaaTab
import Derived.WalkKit
import Derived.ProofKit
import Derived.OpenShut
import Derived.ShutString
set_option linter.unusedVariables false
set_option linter.unusedSimpArgs false
namespace Go.Proofs.Ytfakmggabicdjaa
open Go.ChangeShapes Go.WideShapes Go.ChangeAt Go.RowKit

section
variable {H : Type} {enc : TypeId × Value → H} {w : World} {base : Nat} {spare : Nat → Bool} {held : Bool} {n : Nat} {y : DataW H × List MemPlace}

theorem addr_add' (b o j : Nat) : (⟨b, o, none⟩ : Addr).add j = ⟨b, o + j, none⟩ := by
  unfold Addr.add
  split <;> simp_all
theorem opn_int {c : Value} (h : DataW.trod enc Try.prog w base spare held n 3 [c] = some y) : ∃ a, c = .int .i64 a := by
  obtain ⟨a, e, _, _⟩ := Go.DataW.trod_int Try.underlying3 h
  simp at e
  exact ⟨a, e⟩
set_option maxRecDepth 100000 in
theorem opn_span {c0 c1 : Value} (h : DataW.trod enc Try.prog w base spare held n 23 [c0, c1] = some y) : ∃ a b, c0 = .int .i64 a ∧ c1 = .int .i64 b := by
  have hc : Try.prog.cellsOf 3 = 1 := by kernel_rfl
  obtain ⟨ys, m, _, _, _, hl, hf⟩ := Go.DataW.trod_struct Try.underlying23 h
  match ys, hl with
  | [y0, y1], _ =>
    have h0 := hf 0 _ rfl
    have h1 := hf 1 _ rfl
    simp [hc] at h0 h1
    obtain ⟨a, rfl⟩ := opn_int h0
    obtain ⟨b, rfl⟩ := opn_int h1
    exact ⟨a, b, rfl, rfl⟩
set_option maxRecDepth 100000 in
theorem opn_share {c0 c1 : Value} (h : DataW.trod enc Try.prog w base spare held n 68 [c0, c1] = some y) : ∃ a b, c0 = .int .i64 a ∧ c1 = .int .i64 b := by
  have hc : Try.prog.cellsOf 3 = 1 := by kernel_rfl
  obtain ⟨ys, m, _, _, _, hl, hf⟩ := Go.DataW.trod_struct Try.underlying68 h
  match ys, hl with
  | [y0, y1], _ =>
    have h0 := hf 0 _ rfl
    have h1 := hf 1 _ rfl
    simp [hc] at h0 h1
    obtain ⟨a, rfl⟩ := opn_int h0
    obtain ⟨b, rfl⟩ := opn_int h1
    exact ⟨a, b, rfl, rfl⟩
theorem opn_elem {b o i s : Nat} {t : TypeId} {a : Addr} {z : Option (DataW H × List MemPlace)} (hn : 0 < s) (h : (w.cells? base (a.add (i * s)) s).bind (DataW.trod enc Try.prog w base spare held n t) = z) (hz : z.isSome = true) (ha : a = ⟨b, o, none⟩) :
    ∃ cs x, cs.length = s ∧ (∀ j, j < s → w.cell? ⟨b, o + i * s + j, none⟩ = cs[j]?) ∧ DataW.trod enc Try.prog w base spare held n t cs = some x := by
  obtain ⟨x, rfl⟩ := Option.isSome_iff_exists.1 hz
  obtain ⟨cs, hcs, hx⟩ := Option.bind_eq_some_iff.1 h
  obtain ⟨_, hl, hc⟩ := World.cells?_some hcs
  refine ⟨cs, x, hl, fun j hj => ?_, hx⟩
  have q := hc j hj
  rw [ha, addr_add', addr_add'] at q
  exact q
theorem opn_spot {s : Nat} {t : TypeId} {a : Addr} {z : Option (DataW H × List MemPlace)} (hn : 0 < s) (h : (w.cells? base (a.add (0 * s)) s).bind (DataW.trod enc Try.prog w base spare held n t) = z) (hz : z.isSome = true) : a.spot = none := by
  obtain ⟨x, rfl⟩ := Option.isSome_iff_exists.1 hz
  obtain ⟨cs, hcs, hx⟩ := Option.bind_eq_some_iff.1 h
  obtain ⟨_, hl, hc⟩ := World.cells?_some hcs
  have q := hc 0 hn
  have hs : cs[0]? = some (cs[0]'(by omega)) := List.getElem?_eq_getElem _
  rw [hs] at q
  simp [Addr.add] at q
  exact World.cell?_spot q


theorem opn_load {c0 c1 c2 c3 : Value} (h : DataW.trod enc Try.prog w base spare held n 53 [c0, c1, c2, c3] = some y) : ∃ x : Ld, c0 = .int .i64 x.me ∧ c1 = .int .i64 x.w0 ∧ c2 = .int .i64 x.w1 ∧ c3 = .int .i64 x.st := by
  have hc : Try.prog.cellsOf 3 = 1 := by kernel_rfl
  have hs : Try.prog.cellsOf 23 = 2 := by kernel_rfl
  obtain ⟨ys, m, _, _, _, hl, hf⟩ := Go.DataW.trod_struct Try.underlying53 h
  match ys, hl with
  | [y0, y1, y2], _ =>
    have h0 := hf 0 _ rfl
    have h1 := hf 1 _ rfl
    have h2 := hf 2 _ rfl
    simp [hc, hs] at h0 h1 h2
    obtain ⟨a, rfl⟩ := opn_int h0
    obtain ⟨b, c, rfl, rfl⟩ := opn_span h1
    obtain ⟨d, rfl⟩ := opn_int h2
    exact ⟨⟨a, b, c, d⟩, rfl, rfl, rfl, rfl⟩
theorem opn_spans {v : Value} (h : DataW.trod enc Try.prog w base spare held n 42 [v] = some y) : ∃ m A B, PairsAt w v m A B := by
  have hc2 : Try.prog.cellsOf 23 = 2 := by kernel_rfl
  rcases DataW.trod_slice Try.underlying42 h with ⟨e, _⟩ | ⟨a, len, cap, elems, rest, k, _, e, _, _, hl, hm, hle, hel, _, _⟩
  · simp at e
    exact ⟨0, fun _ => 0, fun _ => 0, none, 0, e, by omega, by omega, fun h => absurd h (by omega)⟩
  · simp at e
    subst e
    unfold maxLen at hm
    rw [hc2] at hel
    have some_ : ∀ i, i < len → (elems[i]?).isSome = true := fun i hi => by simp; omega
    by_cases h0 : 0 < len
    · have hsp : a.spot = none := opn_spot (by omega) (hel 0 h0) (some_ 0 h0)
      obtain ⟨b, o, sp⟩ := a
      simp only at hsp
      subst hsp
      have hall : ∀ i, ∃ t : Int × Int, i < len → w.cell? ⟨b, o + i * 2, none⟩ = some (.int .i64 t.1) ∧ w.cell? ⟨b, o + i * 2 + 1, none⟩ = some (.int .i64 t.2) := fun i => by
        by_cases hi : i < len
        · obtain ⟨cs, x, hcl, hcc, hx⟩ := opn_elem (i := i) (by omega) (hel i hi) (some_ i hi) rfl
          match cs, hcl with
          | [c0, c1], _ =>
            obtain ⟨p, q, rfl, rfl⟩ := opn_span hx
            exact ⟨(p, q), fun _ => ⟨hcc 0 (by omega), hcc 1 (by omega)⟩⟩
        · exact ⟨(0, 0), fun h => absurd h hi⟩
      exact ⟨len, fun i => (hall i).choose.1, fun i => (hall i).choose.2, _, cap, rfl, hl, by omega, fun _ => ⟨b, o, rfl, fun i hi => (hall i).choose_spec hi⟩⟩
    · exact ⟨len, fun _ => 0, fun _ => 0, _, cap, rfl, hl, by omega, fun h => absurd h h0⟩
theorem opn_shares {v : Value} (h : DataW.trod enc Try.prog w base spare held n 24 [v] = some y) : ∃ m A B, PairsAt w v m A B := by
  have hc2 : Try.prog.cellsOf 68 = 2 := by kernel_rfl
  rcases DataW.trod_slice Try.underlying24 h with ⟨e, _⟩ | ⟨a, len, cap, elems, rest, k, _, e, _, _, hl, hm, hle, hel, _, _⟩
  · simp at e
    exact ⟨0, fun _ => 0, fun _ => 0, none, 0, e, by omega, by omega, fun h => absurd h (by omega)⟩
  · simp at e
    subst e
    unfold maxLen at hm
    rw [hc2] at hel
    have some_ : ∀ i, i < len → (elems[i]?).isSome = true := fun i hi => by simp; omega
    by_cases h0 : 0 < len
    · have hsp : a.spot = none := opn_spot (by omega) (hel 0 h0) (some_ 0 h0)
      obtain ⟨b, o, sp⟩ := a
      simp only at hsp
      subst hsp
      have hall : ∀ i, ∃ t : Int × Int, i < len → w.cell? ⟨b, o + i * 2, none⟩ = some (.int .i64 t.1) ∧ w.cell? ⟨b, o + i * 2 + 1, none⟩ = some (.int .i64 t.2) := fun i => by
        by_cases hi : i < len
        · obtain ⟨cs, x, hcl, hcc, hx⟩ := opn_elem (i := i) (by omega) (hel i hi) (some_ i hi) rfl
          match cs, hcl with
          | [c0, c1], _ =>
            obtain ⟨p, q, rfl, rfl⟩ := opn_share hx
            exact ⟨(p, q), fun _ => ⟨hcc 0 (by omega), hcc 1 (by omega)⟩⟩
        · exact ⟨(0, 0), fun h => absurd h hi⟩
      exact ⟨len, fun i => (hall i).choose.1, fun i => (hall i).choose.2, _, cap, rfl, hl, by omega, fun _ => ⟨b, o, rfl, fun i hi => (hall i).choose_spec hi⟩⟩
    · exact ⟨len, fun _ => 0, fun _ => 0, _, cap, rfl, hl, by omega, fun h => absurd h h0⟩
theorem opn_loads {v : Value} (h : DataW.trod enc Try.prog w base spare held n 43 [v] = some y) : ∃ m L, LoadsAt w v m L := by
  have hc4 : Try.prog.cellsOf 53 = 4 := by kernel_rfl
  rcases DataW.trod_slice Try.underlying43 h with ⟨e, _⟩ | ⟨a, len, cap, elems, rest, k, _, e, _, _, hl, hm, hle, hel, _, _⟩
  · simp at e
    exact ⟨0, fun _ => ⟨0, 0, 0, 0⟩, none, 0, e, by omega, by omega, fun h => absurd h (by omega)⟩
  · simp at e
    subst e
    unfold maxLen at hm
    rw [hc4] at hel
    have some_ : ∀ i, i < len → (elems[i]?).isSome = true := fun i hi => by simp; omega
    by_cases h0 : 0 < len
    · have hsp : a.spot = none := opn_spot (by omega) (hel 0 h0) (some_ 0 h0)
      obtain ⟨b, o, sp⟩ := a
      simp only at hsp
      subst hsp
      have hall : ∀ i, ∃ t : Ld, i < len → w.cell? ⟨b, o + i * 4, none⟩ = some (.int .i64 t.me) ∧ w.cell? ⟨b, o + i * 4 + 1, none⟩ = some (.int .i64 t.w0) ∧ w.cell? ⟨b, o + i * 4 + 2, none⟩ = some (.int .i64 t.w1) ∧ w.cell? ⟨b, o + i * 4 + 3, none⟩ = some (.int .i64 t.st) := fun i => by
        by_cases hi : i < len
        · obtain ⟨cs, x, hcl, hcc, hx⟩ := opn_elem (i := i) (by omega) (hel i hi) (some_ i hi) rfl
          match cs, hcl with
          | [c0, c1, c2, c3], _ =>
            obtain ⟨t, rfl, rfl, rfl, rfl⟩ := opn_load hx
            exact ⟨t, fun _ => ⟨hcc 0 (by omega), hcc 1 (by omega), hcc 2 (by omega), hcc 3 (by omega)⟩⟩
        · exact ⟨⟨0, 0, 0, 0⟩, fun h => absurd h hi⟩
      exact ⟨len, fun i => (hall i).choose, _, cap, rfl, hl, by omega, fun _ => ⟨b, o, rfl, fun i hi => (hall i).choose_spec hi⟩⟩
    · exact ⟨len, fun _ => ⟨0, 0, 0, 0⟩, _, cap, rfl, hl, by omega, fun h => absurd h h0⟩
set_option maxRecDepth 100000 in
theorem opn_plate {b0 : Nat} {r : Reach} {v : Value} {d : DataW H} {p : List MemPlace} (hv : Value.okWide Try.prog w r b0 26 v) (h : DataW.Trod enc Try.prog w base spare held 26 v d p) :
    ∃ (x : Pl) (vS vC : Value), v = .agg #[.int .i64 x.s0, .int .i64 x.s1, vS, vC, .int .i64 x.ne, .int .i64 x.ed, .int .i64 x.gr, .int .i64 x.lo, .int .i64 x.hi, .int .i64 x.sh, .int .i64 x.wi] ∧ TabAt w vS x.S ∧ TabAt w vC x.C := by
  have hc : Try.prog.cellsOf 3 = 1 := by kernel_rfl
  have hs : Try.prog.cellsOf 23 = 2 := by kernel_rfl
  have hl1 : Try.prog.cellsOf 24 = 1 := by kernel_rfl
  have hc11 : Try.prog.cellsOf 26 = 11 := by kernel_rfl
  obtain ⟨cs, rfl, hsz⟩ := okWide_struct Try.underlying26 hv
  rw [hc11] at hsz
  obtain ⟨l⟩ := cs
  match l, hsz with
  | [c0, c1, c2, c3, c4, c5, c6, c7, c8, c9, c10], _ =>
    obtain ⟨fuel, hf⟩ := h
    obtain ⟨ys, m, _, _, _, hl, hg⟩ := Go.DataW.trod_struct Try.underlying26 hf
    match ys, hl with
    | [y0, y1, y2, y3, y4, y5, y6, y7, y8, y9], _ =>
      have g0 := hg 0 _ rfl
      have g1 := hg 1 _ rfl
      have g2 := hg 2 _ rfl
      have g3 := hg 3 _ rfl
      have g4 := hg 4 _ rfl
      have g5 := hg 5 _ rfl
      have g6 := hg 6 _ rfl
      have g7 := hg 7 _ rfl
      have g8 := hg 8 _ rfl
      have g9 := hg 9 _ rfl
      simp [hc, hs, hl1, Value.cells] at g0 g1 g2 g3 g4 g5 g6 g7 g8 g9
      obtain ⟨s0, s1, rfl, rfl⟩ := opn_span g0
      obtain ⟨nS, FS, PS, hS⟩ := opn_shares g1
      obtain ⟨nC, FC, PC, hC⟩ := opn_shares g2
      obtain ⟨ne, rfl⟩ := opn_int g3
      obtain ⟨ed, rfl⟩ := opn_int g4
      obtain ⟨gr, rfl⟩ := opn_int g5
      obtain ⟨lo, rfl⟩ := opn_int g6
      obtain ⟨hi, rfl⟩ := opn_int g7
      obtain ⟨sh, rfl⟩ := opn_int g8
      obtain ⟨wi, rfl⟩ := opn_int g9
      exact ⟨⟨s0, s1, ⟨nS, FS, PS⟩, ⟨nC, FC, PC⟩, ne, ed, gr, lo, hi, sh, wi⟩, c2, c3, rfl, hS, hC⟩
end
end Go.Proofs.Ytfakmggabicdjaa

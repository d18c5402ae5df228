/-
  What is known better stays within: the pure functions of a day are monotone. Speaks of no program.
  What a draw leaves: lists of days, of covers and of ice.
  What came in, opened: spans, covers, days, laws, lists of them.
  What FrostChecks wants besides: big, square roots of squares, arrays of laws and of days.
-/
import Derived.Test.YtdbiijldincoiaaGreatBd
import Derived.Test.YtdbiijldincoiaaGreatRef11
import Derived.WalkKit
import Derived.ProofKit
import Derived.OpenShut
import Derived.ShutString
import Derived.ChangeOld
import Derived.Below
import Derived.Test.YtdbiijldincoiaaGreatArr
import Derived.Test.YtdbiijldincoiaaGreatLawOf
set_option linter.unusedVariables false
set_option linter.unusedSimpArgs false
namespace Go.Proofs.YtdbiijldincoiaaGreat
open Go.RowKit

theorem seed_not {bs : Nat} {w : World} (hs : SeedAt bs w) {b o : Nat} {z : Int} (h : w.cell? ⟨b, o, none⟩ = some (.int .i64 z)) : b ≠ bs := by
  obtain ⟨u, hs⟩ := hs
  intro e
  subst e
  have h0 := hs.cell1
  rcases Nat.eq_zero_or_pos o with rfl | ho
  · rw [h0] at h
    simp at h
  · have h' : w.heap[b]? = some (.cells #[.int .u64 u] 70 (0, 0)) := hs
    obtain ⟨j, rfl⟩ : ∃ j, o = j + 1 := ⟨o - 1, by omega⟩
    simp [World.cell?, h'] at h
theorem DaysAt.drawn {bs : Nat} {w w' : World} {v : Value} {n : Nat} {d : Nat → Dy} (h : DaysAt w v n d) (hs : SeedAt bs w) (g : Drawn bs w w') : DaysAt w' v n d := by
  obtain ⟨a, cap, hv, h1, h2, h3⟩ := h
  refine ⟨a, cap, hv, h1, h2, fun h0 => ?_⟩
  obtain ⟨b, o, ha, hc⟩ := h3 h0
  have hb : b ≠ bs := seed_not hs (hc 0 h0).1
  exact ⟨b, o, ha, fun i hi => ⟨g.cell (hc i hi).1 hb, g.cell (hc i hi).2.1 hb, g.cell (hc i hi).2.2.1 hb, g.cell (hc i hi).2.2.2.1 hb, g.cell (hc i hi).2.2.2.2.1 hb, g.cell (hc i hi).2.2.2.2.2 hb⟩⟩
theorem CovAt.drawn {bs : Nat} {w w' : World} {v : Value} {n : Nat} {D P0 P1 : Nat → Int} (h : CovAt w v n D P0 P1) (hs : SeedAt bs w) (g : Drawn bs w w') : CovAt w' v n D P0 P1 := by
  obtain ⟨a, cap, hv, h1, h2, h3⟩ := h
  refine ⟨a, cap, hv, h1, h2, fun h0 => ?_⟩
  obtain ⟨b, o, ha, hc⟩ := h3 h0
  have hb : b ≠ bs := seed_not hs (hc 0 h0).1
  exact ⟨b, o, ha, fun i hi => ⟨g.cell (hc i hi).1 hb, g.cell (hc i hi).2.1 hb, g.cell (hc i hi).2.2 hb⟩⟩
theorem IceL.drawn {bs : Nat} {w w' : World} {v : Value} {n : Nat} {x : Nat → Ic} (h : IceL w v n x) (hs : SeedAt bs w) (g : Drawn bs w w') : IceL w' v n x := by
  obtain ⟨a, cap, hv, h1, h2, h3⟩ := h
  refine ⟨a, cap, hv, h1, h2, fun h0 => ?_⟩
  obtain ⟨b, o, ha, hc⟩ := h3 h0
  have hb : b ≠ bs := seed_not hs (hc 0 h0).1
  exact ⟨b, o, ha, fun i hi => ⟨g.cell (hc i hi).1 hb, g.cell (hc i hi).2.1 hb, g.cell (hc i hi).2.2.1 hb, g.cell (hc i hi).2.2.2.1 hb, g.cell (hc i hi).2.2.2.2.1 hb, g.cell (hc i hi).2.2.2.2.2.1 hb, g.cell (hc i hi).2.2.2.2.2.2.1 hb, g.cell (hc i hi).2.2.2.2.2.2.2 hb⟩⟩
end Go.Proofs.YtdbiijldincoiaaGreat

namespace Go.Proofs.YtdbiijldincoiaaGreat
open Go.ChangeShapes Go.WideShapes Go.ChangeAt Go.RowKit

section
variable {H : Type} {enc : TypeId × Value → H} {w : World} {base : Nat} {spare : Nat → Bool} {held : Bool} {n : Nat} {y : DataW H × List MemPlace}

theorem opn_int {c : Value} (h : DataW.trod enc Tryz.prog w base spare held n 3 [c] = some y) : ∃ a, c = .int .i64 a := by
  obtain ⟨a, e, _, _⟩ := Go.DataW.trod_int Tryz.underlying3 h
  simp at e
  exact ⟨a, e⟩
theorem opn_bool {c : Value} (h : DataW.trod enc Tryz.prog w base spare held n 4 [c] = some y) : ∃ a, c = .bool a := by
  obtain ⟨a, e, _⟩ := Go.DataW.trod_bool Tryz.underlying4 h
  simp at e
  exact ⟨a, e⟩
set_option maxRecDepth 100000 in
theorem opn_span {c0 c1 : Value} (h : DataW.trod enc Tryz.prog w base spare held n 24 [c0, c1] = some y) : ∃ a b, c0 = .int .i64 a ∧ c1 = .int .i64 b := by
  have hc : Tryz.prog.cellsOf 3 = 1 := by kernel_rfl
  obtain ⟨ys, m, _, _, _, hl, hf⟩ := Go.DataW.trod_struct Tryz.underlying24 h
  match ys, hl with
  | [y0, y1], _ =>
    have h0 := hf 0 _ rfl
    have h1 := hf 1 _ rfl
    simp [hc] at h0 h1
    obtain ⟨a, rfl⟩ := opn_int h0
    obtain ⟨b, rfl⟩ := opn_int h1
    exact ⟨a, b, rfl, rfl⟩
set_option maxRecDepth 100000 in
theorem opn_cover {c0 c1 c2 : Value} (h : DataW.trod enc Tryz.prog w base spare held n 74 [c0, c1, c2] = some y) : ∃ t : Int × Int × Int, c0 = .int .i64 t.1 ∧ c1 = .int .i64 t.2.1 ∧ c2 = .int .i64 t.2.2 := by
  have hc : Tryz.prog.cellsOf 3 = 1 := by kernel_rfl
  have hs : Tryz.prog.cellsOf 24 = 2 := by kernel_rfl
  obtain ⟨ys, m, _, _, _, hl, hf⟩ := Go.DataW.trod_struct Tryz.underlying74 h
  match ys, hl with
  | [y0, y1], _ =>
    have h0 := hf 0 _ rfl
    have h1 := hf 1 _ rfl
    simp [hc, hs] at h0 h1
    obtain ⟨a, rfl⟩ := opn_int h0
    obtain ⟨b, c, rfl, rfl⟩ := opn_span h1
    exact ⟨(a, b, c), rfl, rfl, rfl⟩
set_option maxRecDepth 100000 in
theorem opn_day {c0 c1 c2 c3 c4 c5 : Value} (h : DataW.trod enc Tryz.prog w base spare held n 58 [c0, c1, c2, c3, c4, c5] = some y) : ∃ d : Dy, c0 = .int .i64 d.c0 ∧ c1 = .int .i64 d.c1 ∧ c2 = .int .i64 d.f0 ∧ c3 = .int .i64 d.f1 ∧ c4 = .int .i64 d.wa ∧ c5 = .bool d.cl := by
  have hc : Tryz.prog.cellsOf 3 = 1 := by kernel_rfl
  have hb : Tryz.prog.cellsOf 4 = 1 := by kernel_rfl
  have hs : Tryz.prog.cellsOf 24 = 2 := by kernel_rfl
  obtain ⟨ys, m, _, _, _, hl, hf⟩ := Go.DataW.trod_struct Tryz.underlying58 h
  match ys, hl with
  | [y0, y1, y2, y3], _ =>
    have h0 := hf 0 _ rfl
    have h1 := hf 1 _ rfl
    have h2 := hf 2 _ rfl
    have h3 := hf 3 _ rfl
    simp [hc, hs, hb] at h0 h1 h2 h3
    obtain ⟨a, b, rfl, rfl⟩ := opn_span h0
    obtain ⟨c, d, rfl, rfl⟩ := opn_span h1
    obtain ⟨e, rfl⟩ := opn_int h2
    obtain ⟨f, rfl⟩ := opn_bool h3
    exact ⟨⟨a, b, c, d, e, f⟩, rfl, rfl, rfl, rfl, rfl, rfl⟩

theorem opn_elem {b o i s : Nat} {t : TypeId} {a : Addr} {z : Option (DataW H × List MemPlace)} (hn : 0 < s) (h : (w.cells? base (a.add (i * s)) s).bind (DataW.trod enc Tryz.prog w base spare held n t) = z) (hz : z.isSome = true) (ha : a = ⟨b, o, none⟩) :
    ∃ cs x, cs.length = s ∧ (∀ j, j < s → w.cell? ⟨b, o + i * s + j, none⟩ = cs[j]?) ∧ DataW.trod enc Tryz.prog w base spare held n t cs = some x := by
  obtain ⟨x, rfl⟩ := Option.isSome_iff_exists.1 hz
  obtain ⟨cs, hcs, hx⟩ := Option.bind_eq_some_iff.1 h
  obtain ⟨_, hl, hc⟩ := World.cells?_some hcs
  refine ⟨cs, x, hl, fun j hj => ?_, hx⟩
  have q := hc j hj
  rw [ha, addr_add, addr_add] at q
  exact q
theorem opn_spot {s : Nat} {t : TypeId} {a : Addr} {z : Option (DataW H × List MemPlace)} (hn : 0 < s) (h : (w.cells? base (a.add (0 * s)) s).bind (DataW.trod enc Tryz.prog w base spare held n t) = z) (hz : z.isSome = true) : a.spot = none := by
  obtain ⟨x, rfl⟩ := Option.isSome_iff_exists.1 hz
  obtain ⟨cs, hcs, hx⟩ := Option.bind_eq_some_iff.1 h
  obtain ⟨_, hl, hc⟩ := World.cells?_some hcs
  have q := hc 0 hn
  have hs : cs[0]? = some (cs[0]'(by omega)) := List.getElem?_eq_getElem _
  rw [hs] at q
  simp [Addr.add] at q
  exact World.cell?_spot q

theorem opn_days {v : Value} (h : DataW.trod enc Tryz.prog w base spare held n 29 [v] = some y) : ∃ m d, DaysAt w v m d := by
  have hc6 : Tryz.prog.cellsOf 58 = 6 := by kernel_rfl
  rcases DataW.trod_slice Tryz.underlying29 h with ⟨e, _⟩ | ⟨a, len, cap, elems, rest, k, _, e, _, _, hl, hm, hle, hel, _, _⟩
  · simp at e
    exact ⟨0, fun _ => ⟨0, 0, 0, 0, 0, false⟩, none, 0, e, by omega, by omega, fun h => absurd h (by omega)⟩
  · simp at e
    subst e
    unfold maxLen at hm
    rw [hc6] at hel
    have some_ : ∀ i, i < len → (elems[i]?).isSome = true := fun i hi => by simp; omega
    by_cases h0 : 0 < len
    · have hsp : a.spot = none := opn_spot (by omega) (hel 0 h0) (some_ 0 h0)
      obtain ⟨b, o, sp⟩ := a
      simp only at hsp
      subst hsp
      have hall : ∀ i, ∃ d : Dy, i < len → w.cell? ⟨b, o + i * 6, none⟩ = some (.int .i64 d.c0) ∧ w.cell? ⟨b, o + i * 6 + 1, none⟩ = some (.int .i64 d.c1) ∧ w.cell? ⟨b, o + i * 6 + 2, none⟩ = some (.int .i64 d.f0) ∧
          w.cell? ⟨b, o + i * 6 + 3, none⟩ = some (.int .i64 d.f1) ∧ w.cell? ⟨b, o + i * 6 + 4, none⟩ = some (.int .i64 d.wa) ∧ w.cell? ⟨b, o + i * 6 + 5, none⟩ = some (.bool d.cl) := fun i => by
        by_cases hi : i < len
        · obtain ⟨cs, x, hcl, hcc, hx⟩ := opn_elem (i := i) (by omega) (hel i hi) (some_ i hi) rfl
          match cs, hcl with
          | [c0, c1, c2, c3, c4, c5], _ =>
            obtain ⟨d, rfl, rfl, rfl, rfl, rfl, rfl⟩ := opn_day hx
            exact ⟨d, fun _ => ⟨hcc 0 (by omega), hcc 1 (by omega), hcc 2 (by omega), hcc 3 (by omega), hcc 4 (by omega), hcc 5 (by omega)⟩⟩
        · exact ⟨⟨0, 0, 0, 0, 0, false⟩, fun h => absurd h hi⟩
      exact ⟨len, fun i => (hall i).choose, _, cap, rfl, hl, by omega, fun _ => ⟨b, o, rfl, fun i hi => (hall i).choose_spec hi⟩⟩
    · exact ⟨len, fun _ => ⟨0, 0, 0, 0, 0, false⟩, _, cap, rfl, hl, by omega, fun h => absurd h h0⟩
theorem opn_covers {v : Value} (h : DataW.trod enc Tryz.prog w base spare held n 22 [v] = some y) : ∃ m D P0 P1, CovAt w v m D P0 P1 := by
  have hc3 : Tryz.prog.cellsOf 74 = 3 := by kernel_rfl
  rcases DataW.trod_slice Tryz.underlying22 h with ⟨e, _⟩ | ⟨a, len, cap, elems, rest, k, _, e, _, _, hl, hm, hle, hel, _, _⟩
  · simp at e
    exact ⟨0, fun _ => 0, fun _ => 0, fun _ => 0, none, 0, e, by omega, by omega, fun h => absurd h (by omega)⟩
  · simp at e
    subst e
    unfold maxLen at hm
    rw [hc3] at hel
    have some_ : ∀ i, i < len → (elems[i]?).isSome = true := fun i hi => by simp; omega
    by_cases h0 : 0 < len
    · have hsp : a.spot = none := opn_spot (by omega) (hel 0 h0) (some_ 0 h0)
      obtain ⟨b, o, sp⟩ := a
      simp only at hsp
      subst hsp
      have hall : ∀ i, ∃ t : Int × Int × Int, i < len → w.cell? ⟨b, o + i * 3, none⟩ = some (.int .i64 t.1) ∧ w.cell? ⟨b, o + i * 3 + 1, none⟩ = some (.int .i64 t.2.1) ∧ w.cell? ⟨b, o + i * 3 + 2, none⟩ = some (.int .i64 t.2.2) := fun i => by
        by_cases hi : i < len
        · obtain ⟨cs, x, hcl, hcc, hx⟩ := opn_elem (i := i) (by omega) (hel i hi) (some_ i hi) rfl
          match cs, hcl with
          | [c0, c1, c2], _ =>
            obtain ⟨t, rfl, rfl, rfl⟩ := opn_cover hx
            exact ⟨t, fun _ => ⟨hcc 0 (by omega), hcc 1 (by omega), hcc 2 (by omega)⟩⟩
        · exact ⟨(0, 0, 0), fun h => absurd h hi⟩
      exact ⟨len, fun i => (hall i).choose.1, fun i => (hall i).choose.2.1, fun i => (hall i).choose.2.2, _, cap, rfl, hl, by omega, fun _ => ⟨b, o, rfl, fun i hi => (hall i).choose_spec hi⟩⟩
    · exact ⟨len, fun _ => 0, fun _ => 0, fun _ => 0, _, cap, rfl, hl, by omega, fun h => absurd h h0⟩

set_option maxRecDepth 100000 in
theorem opn_law {b0 : Nat} {r : Reach} {v : Value} {d : DataW H} {p : List MemPlace} (hv : Value.okWide Tryz.prog w r b0 26 v) (h : DataW.Trod enc Tryz.prog w base spare held 26 v d p) :
    ∃ (l : Lw) (cv : Value), v = .agg #[.int .i64 l.gr, .int .i64 l.la, cv, .int .i64 l.m0, .int .i64 l.m1, .int .i64 l.so, .int .i64 l.h0, .int .i64 l.h1] ∧ CovAt w cv l.n l.D l.P0 l.P1 := by
  have hc : Tryz.prog.cellsOf 3 = 1 := by kernel_rfl
  have hs : Tryz.prog.cellsOf 24 = 2 := by kernel_rfl
  have hl1 : Tryz.prog.cellsOf 22 = 1 := by kernel_rfl
  have hc8 : Tryz.prog.cellsOf 26 = 8 := by kernel_rfl
  obtain ⟨cs, rfl, hsz⟩ := okWide_struct Tryz.underlying26 hv
  rw [hc8] at hsz
  obtain ⟨l⟩ := cs
  match l, hsz with
  | [c0, c1, c2, c3, c4, c5, c6, c7], _ =>
    obtain ⟨fuel, hf⟩ := h
    obtain ⟨ys, m, _, _, _, hl, hg⟩ := Go.DataW.trod_struct Tryz.underlying26 hf
    match ys, hl with
    | [y0, y1, y2, y3, y4, y5], _ =>
      have g0 := hg 0 _ rfl
      have g1 := hg 1 _ rfl
      have g2 := hg 2 _ rfl
      have g3 := hg 3 _ rfl
      have g4 := hg 4 _ rfl
      have g5 := hg 5 _ rfl
      simp [hc, hs, hl1, Value.cells] at g0 g1 g2 g3 g4 g5
      obtain ⟨gr, rfl⟩ := opn_int g0
      obtain ⟨la, rfl⟩ := opn_int g1
      obtain ⟨n, D, P0, P1, hcv⟩ := opn_covers g2
      obtain ⟨m0, m1, rfl, rfl⟩ := opn_span g3
      obtain ⟨so, rfl⟩ := opn_int g4
      obtain ⟨h0, h1, rfl, rfl⟩ := opn_span g5
      exact ⟨⟨gr, la, n, D, P0, P1, m0, m1, so, h0, h1⟩, c2, rfl, hcv⟩
set_option maxRecDepth 100000 in
theorem opn_ice {b0 : Nat} {r : Reach} {v : Value} {d : DataW H} {p : List MemPlace} (hv : Value.okWide Tryz.prog w r b0 28 v) (h : DataW.Trod enc Tryz.prog w base spare held 28 v d p) :
    ∃ x : Ic, v = .agg #[.int .i64 x.b0, .int .i64 x.b1, .int .i64 x.w0, .int .i64 x.w1, .int .i64 x.q0, .int .i64 x.q1, .int .i64 x.s0, .int .i64 x.s1] := by
  have hs : Tryz.prog.cellsOf 24 = 2 := by kernel_rfl
  have hc8 : Tryz.prog.cellsOf 28 = 8 := by kernel_rfl
  obtain ⟨cs, rfl, hsz⟩ := okWide_struct Tryz.underlying28 hv
  rw [hc8] at hsz
  obtain ⟨l⟩ := cs
  match l, hsz with
  | [c0, c1, c2, c3, c4, c5, c6, c7], _ =>
    obtain ⟨fuel, hf⟩ := h
    obtain ⟨ys, m, _, _, _, hl, hg⟩ := Go.DataW.trod_struct Tryz.underlying28 hf
    match ys, hl with
    | [y0, y1, y2, y3], _ =>
      have g0 := hg 0 _ rfl
      have g1 := hg 1 _ rfl
      have g2 := hg 2 _ rfl
      have g3 := hg 3 _ rfl
      simp [hs, Value.cells] at g0 g1 g2 g3
      obtain ⟨a0, a1, rfl, rfl⟩ := opn_span g0
      obtain ⟨a2, a3, rfl, rfl⟩ := opn_span g1
      obtain ⟨a4, a5, rfl, rfl⟩ := opn_span g2
      obtain ⟨a6, a7, rfl, rfl⟩ := opn_span g3
      exact ⟨⟨a0, a1, a2, a3, a4, a5, a6, a7⟩, rfl⟩
end
end Go.Proofs.YtdbiijldincoiaaGreat

namespace Go.Proofs.YtdbiijldincoiaaGreat
open Go.RowKit

def LwArr (C : Array Value) (m : Nat) (x : Nat → Lw × Value) : Prop :=
  ∀ i, i < m → C[i * 8]? = some (.int .i64 (x i).1.gr) ∧ C[i * 8 + 1]? = some (.int .i64 (x i).1.la) ∧ C[i * 8 + 2]? = some (x i).2 ∧ C[i * 8 + 3]? = some (.int .i64 (x i).1.m0) ∧ C[i * 8 + 4]? = some (.int .i64 (x i).1.m1) ∧ C[i * 8 + 5]? = some (.int .i64 (x i).1.so) ∧ C[i * 8 + 6]? = some (.int .i64 (x i).1.h0) ∧ C[i * 8 + 7]? = some (.int .i64 (x i).1.h1)
theorem LwArr.cells {C : Array Value} {m : Nat} {x : Nat → Lw × Value} (h : LwArr C m x) {w : World} {b : Nat} {t : TypeId} (hb : Blk w b C t) {k : Nat} (hk : k < m) :
    w.cell? ⟨b, k * 8, none⟩ = some (.int .i64 (x k).1.gr) ∧ w.cell? ⟨b, k * 8 + 1, none⟩ = some (.int .i64 (x k).1.la) ∧ w.cell? ⟨b, k * 8 + 2, none⟩ = some (x k).2 ∧ w.cell? ⟨b, k * 8 + 3, none⟩ = some (.int .i64 (x k).1.m0) ∧ w.cell? ⟨b, k * 8 + 4, none⟩ = some (.int .i64 (x k).1.m1) ∧ w.cell? ⟨b, k * 8 + 5, none⟩ = some (.int .i64 (x k).1.so) ∧ w.cell? ⟨b, k * 8 + 6, none⟩ = some (.int .i64 (x k).1.h0) ∧ w.cell? ⟨b, k * 8 + 7, none⟩ = some (.int .i64 (x k).1.h1) := by
  obtain ⟨a0, a1, a2, a3, a4, a5, a6, a7⟩ := h k hk
  exact ⟨hb.cell _ a0, hb.cell _ a1, hb.cell _ a2, hb.cell _ a3, hb.cell _ a4, hb.cell _ a5, hb.cell _ a6, hb.cell _ a7⟩
theorem blk_row_ne2 {W : World} {b base s n : Nat} {C : Array Value} {t e : TypeId} {v : Value} {xs : List Value} (h : Blk W b C t) (r : W.ownsRow base e s v n xs) (hne : t ≠ e) : ∀ q, v.ownBlock = some q → b ≠ q := by
  intro q hq hb
  subst hb
  obtain ⟨_, h2⟩ := r
  rcases h2 with ⟨rfl, _⟩ | ⟨g, cap, cur, rfl, _, hc, _⟩
  · simp [Value.ownBlock] at hq
  · simp [Value.ownBlock] at hq
    subst hq
    have h' : W.heap[g]? = some (.cells C t (0, 0)) := h
    rw [h'] at hc
    simp at hc
    exact hne hc.2
theorem Blk.grown3 {W W' : World} {b : Nat} {C : Array Value} {t : TypeId} {r : Option Nat} (h : Blk W b C t) (g : W.grownBy W' r) (hne : ∀ k, r = some k → b ≠ k) : Blk W' b C t :=
  (g.block b h.lt (by intro e; exact hne b (by first | exact e | exact e.symm) rfl)).trans h
theorem row_grown2 {W W' : World} {b1 b2 s1 s2 n1 n2 : Nat} {e1 e2 : TypeId} {v1 v2 : Value} {xs1 xs2 : List Value} (h : W.ownsRow b1 e1 s1 v1 n1 xs1) (r : W.ownsRow b2 e2 s2 v2 n2 xs2) (hne : e1 ≠ e2) (g : W.grownBy W' v2.ownBlock) : W'.ownsRow b1 e1 s1 v1 n1 xs1 := by
  refine h.kept g ?_
  obtain ⟨_, h2⟩ := h
  obtain ⟨_, r2⟩ := r
  rcases h2 with ⟨rfl, _⟩ | ⟨g1, cap1, cur1, rfl, _, hc1, _⟩
  · exact .inl rfl
  · right
    rcases r2 with ⟨rfl, _⟩ | ⟨g2, cap2, cur2, rfl, _, hc2, _⟩
    · simp [Value.ownBlock]
    · simp [Value.ownBlock]
      intro e
      subst e
      rw [hc1] at hc2
      simp at hc2
      exact hne hc2.2
theorem days_one6 (d : Nat → Dy) : ∀ n, ∀ u ∈ daysC d n, u.oneCell' = true
  | 0, u, h => by simp [daysC] at h
  | n + 1, u, h => by
    simp only [daysC, List.mem_append] at h
    rcases h with h | h
    · exact days_one6 d n u h
    · exact one6 (d n) u h
theorem days_news {w : World} {b o n : Nat} {d : Nat → Dy} (hc : ∀ i, i < n → w.cell? ⟨b, o + i * 6, none⟩ = some (.int .i64 (d i).c0) ∧ w.cell? ⟨b, o + i * 6 + 1, none⟩ = some (.int .i64 (d i).c1) ∧ w.cell? ⟨b, o + i * 6 + 2, none⟩ = some (.int .i64 (d i).f0) ∧
      w.cell? ⟨b, o + i * 6 + 3, none⟩ = some (.int .i64 (d i).f1) ∧ w.cell? ⟨b, o + i * 6 + 4, none⟩ = some (.int .i64 (d i).wa) ∧ w.cell? ⟨b, o + i * 6 + 5, none⟩ = some (.bool (d i).cl)) :
    ∀ (q : Nat) (u : Value), (daysC d n)[q]? = some u → w.cell? ((⟨b, o, none⟩ : Addr).add q) = some u := by
  intro q u h
  have hl := daysC_len d n
  have hq : q < n * 6 := by
    rw [← hl]
    exact (List.getElem?_eq_some_iff.1 h).1
  have hi : q / 6 < n := by omega
  have e : q = q / 6 * 6 + q % 6 := by omega
  have hr : q % 6 < 6 := by omega
  have k := daysC_at d n (q / 6) (q % 6) hi hr
  rw [← e, h] at k
  obtain ⟨a0, a1, a2, a3, a4, a5⟩ := hc (q / 6) hi
  rw [addr_add, show o + q = o + q / 6 * 6 + q % 6 by omega]
  generalize q / 6 = i at *
  generalize q % 6 = r at *
  clear e hq
  obtain rfl | rfl | rfl | rfl | rfl | rfl : r = 0 ∨ r = 1 ∨ r = 2 ∨ r = 3 ∨ r = 4 ∨ r = 5 := by omega
  all_goals (simp [dayC] at k; subst k; first | exact a0 | exact a1 | exact a2 | exact a3 | exact a4 | exact a5)
end Go.Proofs.YtdbiijldincoiaaGreat

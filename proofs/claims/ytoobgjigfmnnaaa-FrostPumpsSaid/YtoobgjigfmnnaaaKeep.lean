/-
  What a draw leaves: lists of days, of covers and of ice.
-/
import Derived.Test.YtoobgjigfmnnaaaSame
import Derived.Test.YtoobgjigfmnnaaaBd
set_option linter.unusedVariables false
set_option linter.unusedSimpArgs false
namespace Go.Proofs.Ytoobgjigfmnnaaa
open Go.RowKit

/-- A cell that holds an int lies not in the seed. -/
theorem seed_not {bs : Nat} {w : World} (hs : SeedAt bs w) {b o : Nat} {z : Int} (h : w.cell? ⟨b, o, none⟩ = some (.int .i64 z)) : b ≠ bs := by
  obtain ⟨u, hs⟩ := hs
  intro e
  subst e
  have h0 := hs.cell1
  rcases Nat.eq_zero_or_pos o with rfl | ho
  · rw [h0] at h
    simp at h
  · have h' : w.heap[b]? = some (.cells #[.int .u64 u] 92 (0, 0)) := hs
    obtain ⟨j, rfl⟩ : ∃ j, o = j + 1 := ⟨o - 1, by omega⟩
    simp [World.cell?, h'] at h
theorem DaysAt.drawn {bs : Nat} {w w' : World} {v : Value} {n : Nat} {d : Nat → Dy} (h : DaysAt w v n d) (hs : SeedAt bs w) (g : Drawn bs w w') : DaysAt w' v n d := by
  obtain ⟨a, cap, hv, h1, h2, h3⟩ := h
  refine ⟨a, cap, hv, h1, h2, fun h0 => ?_⟩
  obtain ⟨b, o, ha, hc⟩ := h3 h0
  have hb : b ≠ bs := seed_not hs (hc 0 h0).1
  exact ⟨b, o, ha, fun i hi => ⟨g.cell (hc i hi).1 hb, g.cell (hc i hi).2.1 hb, g.cell (hc i hi).2.2.1 hb, g.cell (hc i hi).2.2.2.1 hb, g.cell (hc i hi).2.2.2.2.1 hb, g.cell (hc i hi).2.2.2.2.2 hb⟩⟩
theorem CovAt.drawn {bs : Nat} {w w' : World} {v : Value} {n : Nat} {D P0 P1 : Nat → Int} (h : CovAt w v n D P0 P1) (hs : SeedAt bs w) (g : Drawn bs w w') : CovAt w' v n D P0 P1 := by
  obtain ⟨a, cap, hv, h1, h2, h3⟩ := h
  refine ⟨a, cap, hv, h1, h2, fun h0 => ?_⟩
  obtain ⟨b, o, ha, hc⟩ := h3 h0
  have hb : b ≠ bs := seed_not hs (hc 0 h0).1
  exact ⟨b, o, ha, fun i hi => ⟨g.cell (hc i hi).1 hb, g.cell (hc i hi).2.1 hb, g.cell (hc i hi).2.2 hb⟩⟩
theorem IceL.drawn {bs : Nat} {w w' : World} {v : Value} {n : Nat} {x : Nat → Ic} (h : IceL w v n x) (hs : SeedAt bs w) (g : Drawn bs w w') : IceL w' v n x := by
  obtain ⟨a, cap, hv, h1, h2, h3⟩ := h
  refine ⟨a, cap, hv, h1, h2, fun h0 => ?_⟩
  obtain ⟨b, o, ha, hc⟩ := h3 h0
  have hb : b ≠ bs := seed_not hs (hc 0 h0).1
  exact ⟨b, o, ha, fun i hi => ⟨g.cell (hc i hi).1 hb, g.cell (hc i hi).2.1 hb, g.cell (hc i hi).2.2.1 hb, g.cell (hc i hi).2.2.2.1 hb, g.cell (hc i hi).2.2.2.2.1 hb, g.cell (hc i hi).2.2.2.2.2.1 hb, g.cell (hc i hi).2.2.2.2.2.2.1 hb, g.cell (hc i hi).2.2.2.2.2.2.2 hb⟩⟩
end Go.Proofs.Ytoobgjigfmnnaaa

/-
  Cells of lists of ice; numbers that are still there.
-/
import Derived.Test.YtdbiijldincoiaaGreatNew
import Derived.Test.YtdbiijldincoiaaGreatKit
set_option linter.unusedVariables false
set_option linter.unusedSimpArgs false
namespace Go.Proofs.YtdbiijldincoiaaGreat
open Go.RowKit

theorem NumsAt.later {w W : World} {a : Option Addr} {n : Nat} (h : NumsAt w a n) (hB : Below w.heap.size w W) : NumsAt W a n :=
  ⟨h.1, fun h0 => by
    obtain ⟨b, o, e, hb, hc⟩ := h.2 h0
    exact ⟨b, o, e, Nat.lt_of_lt_of_le hb hB.size, fun i hi => by
      obtain ⟨x, hx⟩ := hc i hi
      exact ⟨x, cell_later hB hx⟩⟩⟩
theorem Blk.other2 {w : World} {b : Nat} {C : Array Value} {t : TypeId} (h : Blk w b C t) {c : Nat} (hp : b ≠ c) (y0 y1 : Value) :
    Blk ((w.setCell ⟨c, 0, none⟩ y0).setCell ⟨c, 1, none⟩ y1) b C t := (h.other _ _ hp).other _ _ hp
theorem Eight.of {w : World} {b : Nat} {t : TypeId} {x0 x1 x2 x3 x4 x5 x6 x7 : Value} (h : Blk w b #[x0, x1, x2, x3, x4, x5, x6, x7] t) : Eight w b t := ⟨x0, x1, x2, x3, x4, x5, x6, x7, h⟩
def IcArr (C : Array Value) (o m : Nat) (x : Nat → Ic) : Prop :=
  ∀ i, i < m → C[o + i * 8]? = some (.int .i64 (x i).b0) ∧ C[o + i * 8 + 1]? = some (.int .i64 (x i).b1) ∧ C[o + i * 8 + 2]? = some (.int .i64 (x i).w0) ∧ C[o + i * 8 + 3]? = some (.int .i64 (x i).w1) ∧ C[o + i * 8 + 4]? = some (.int .i64 (x i).q0) ∧ C[o + i * 8 + 5]? = some (.int .i64 (x i).q1) ∧ C[o + i * 8 + 6]? = some (.int .i64 (x i).s0) ∧ C[o + i * 8 + 7]? = some (.int .i64 (x i).s1)
theorem IcArr.cells {C : Array Value} {o m : Nat} {x : Nat → Ic} (h : IcArr C o m x) {w : World} {b : Nat} {t : TypeId} (hb : Blk w b C t) {k : Nat} (hk : k < m) :
    w.cell? ⟨b, o + k * 8, none⟩ = some (.int .i64 (x k).b0) ∧ w.cell? ⟨b, o + k * 8 + 1, none⟩ = some (.int .i64 (x k).b1) ∧ w.cell? ⟨b, o + k * 8 + 2, none⟩ = some (.int .i64 (x k).w0) ∧ w.cell? ⟨b, o + k * 8 + 3, none⟩ = some (.int .i64 (x k).w1) ∧ w.cell? ⟨b, o + k * 8 + 4, none⟩ = some (.int .i64 (x k).q0) ∧ w.cell? ⟨b, o + k * 8 + 5, none⟩ = some (.int .i64 (x k).q1) ∧ w.cell? ⟨b, o + k * 8 + 6, none⟩ = some (.int .i64 (x k).s0) ∧ w.cell? ⟨b, o + k * 8 + 7, none⟩ = some (.int .i64 (x k).s1) := by
  obtain ⟨a0, a1, a2, a3, a4, a5, a6, a7⟩ := h k hk
  exact ⟨hb.cell _ a0, hb.cell _ a1, hb.cell _ a2, hb.cell _ a3, hb.cell _ a4, hb.cell _ a5, hb.cell _ a6, hb.cell _ a7⟩
end Go.Proofs.YtdbiijldincoiaaGreat

/-
  The kit's Has, In, Inside, InIce where they say yes; TrueIce.
-/
import Derived.Test.YtdbiijldincoiaaGreatIceOf
set_option linter.unusedVariables false
set_option linter.unusedSimpArgs false
namespace Go.Proofs.YtdbiijldincoiaaGreat
open Go.RowKit

theorem Drawn.set4 {bs : Nat} {w v : World} (h : Drawn bs w v) {b : Nat} (hp : w.heap.size ≤ b) (hb : bs < w.heap.size) (u0 u1 u2 u3 : Value) :
    Drawn bs w ((((v.setCell ⟨b, 0, none⟩ u0).setCell ⟨b, 1, none⟩ u1).setCell ⟨b, 2, none⟩ u2).setCell ⟨b, 3, none⟩ u3) :=
  (((h.set (p := ⟨b, 0, none⟩) hp hb u0).set (p := ⟨b, 1, none⟩) hp hb u1).set (p := ⟨b, 2, none⟩) hp hb u2).set (p := ⟨b, 3, none⟩) hp hb u3
def Four (w : World) (b : Nat) (t : TypeId) : Prop := ∃ p q r s, Blk w b #[p, q, r, s] t
theorem Four.drawn {bs b : Nat} {t : TypeId} {w v : World} (g : Drawn bs w v) (h : Four w b t) (hne : b ≠ bs) : Four v b t := by
  obtain ⟨p, q, r, s, h⟩ := h
  exact ⟨p, q, r, s, g.blk h hne⟩
theorem Eight.drawn {bs b : Nat} {t : TypeId} {w v : World} (g : Drawn bs w v) (h : Eight w b t) (hne : b ≠ bs) : Eight v b t := by
  obtain ⟨x0, x1, x2, x3, x4, x5, x6, x7, h⟩ := h
  exact ⟨x0, x1, x2, x3, x4, x5, x6, x7, g.blk h hne⟩
theorem Drawn.after {bs : Nat} {w v v' : World} (h : Drawn bs w v) (hb : Below v.heap.size v v') : Drawn bs w v' := by
  obtain ⟨⟨u, hu⟩, g⟩ := h
  exact ⟨⟨u, hu.call hb⟩, grownBy_trans g ⟨hb.os, hb.tape, hb.output, hb.size, fun k hk _ => hb.block k hk⟩⟩

end Go.Proofs.YtdbiijldincoiaaGreat

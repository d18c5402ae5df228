/-
  Regions that only read, and regions that read and then store: with the world behind the draw behind a name. Speaks of no program.
-/
import Derived.StillTailTactics
import Derived.WalkKit
import Derived.Below
import Derived.Deep.RegionHeld
set_option linter.unusedVariables false
set_option linter.unusedSimpArgs false
namespace Go.Proofs.Ytpeogfcfiabcfaa
open Go.RowKit

theorem region_still {P : Program} {id : Nat} {Q : Exit → Act → World → Prop} {a : Act} {w : World} {l : List Oper} (hm : P.follows .mixedOrders = true) (hB : Region.lexB .any l.toArray = true)
    (h : ∀ U, w.drew = U → wpStill P l.toArray U (fun a' => Q .normal a' U) l a) : (Code.region id l.toArray true).wp P Q a w :=
  wp_region_still_lit hm hB (h _ rfl)
theorem region_tail {P : Program} {id : Nat} {Q : Exit → Act → World → Prop} {a : Act} {w : World} {l : List Oper} (n : Nat) (hm : P.follows .mixedOrders = true) (hB : Region.lexTailB .any l.toArray n = true)
    (h : ∀ U, w.drew = U → wpStill P l.toArray U (fun a' => wpList P l.toArray Q (l.drop n) a' U) (l.take n) a) : (Code.region id l.toArray true).wp P Q a w :=
  wp_region_still_tail n hm hB (h _ rfl)

section
variable {P : Program} {ops : Array Oper} {Q : Exit → Act → World → Prop} {md : Region.Mode} {S : World → Prop} {fuel : Nat} {listed : Array Bool} {a : Act} {w : World}
theorem tkY (i : Nat) (d : Option Nat) (v : Value) {op : _} {t : _} {p : _} {af : _} {g : _} (hy : ∀ w, S w → (execOp a.eval { dst := d, op := op, type := t, pos := p, after := af, guard := g }).run P w = .ok (.value v) w) (h : wpAnyH P md ops Q S fuel (listed.setIfInBounds i true) (a.put d v) w)
    (hi : ops[i]? = some { dst := d, op := op, type := t, pos := p, after := af, guard := g } := by rfl) (hw : Region.wanted { dst := d, op := op, type := t, pos := p, after := af, guard := g } (yielded ops a.tmps) = true := by rfl) (hs : Region.noSelect ops = true := by kernel_rfl) (hf : Region.free md ops listed i = true := by kernel_rfl) (hr : (Region.ready md ops listed).contains i = true := by kernel_rfl)
    (hQ : ∀ c a w, Q (.panic c) (a.put d v) w → Q (.panic c) a w := by exact fun _ _ _ h => h) (hS : S w := by assumption) : wpAnyH P md ops Q S (fuel + 1) listed a w :=
  wpAnyH_take hi hs hf hr hQ (Or.inl ⟨hw, hy⟩) hS h
theorem tkN (i : Nat) (d : Option Nat) {op : _} {t : _} {p : _} {af : _} {g : _} (h : wpAnyH P md ops Q S fuel (listed.setIfInBounds i true) (a.put d undef) w)
    (hi : ops[i]? = some { dst := d, op := op, type := t, pos := p, after := af, guard := g } := by rfl) (hw : Region.wanted { dst := d, op := op, type := t, pos := p, after := af, guard := g } (yielded ops a.tmps) = false := by rfl) (hs : Region.noSelect ops = true := by kernel_rfl) (hf : Region.free md ops listed i = true := by kernel_rfl) (hr : (Region.ready md ops listed).contains i = true := by kernel_rfl)
    (hQ : ∀ c a w, Q (.panic c) (a.put d undef) w → Q (.panic c) a w := by exact fun _ _ _ h => h) (hS : S w := by assumption) : wpAnyH P md ops Q S (fuel + 1) listed a w :=
  wpAnyH_take hi hs hf hr hQ (Or.inr ⟨hw, rfl⟩) hS h
theorem arc {i : Nat} {rs : List Nat} (d : Option Nat) {op : _} {t : _} {p : _} {af : _} {g : _}
    (h : ∀ K' : Act → World → Prop, Shut (∀ a w, S w → (S w → wpAnyH P md ops Q S fuel (listed.setIfInBounds i true) a w) → K' a w) → if Region.wanted { dst := d, op := op, type := t, pos := p, after := af, guard := g } (yielded ops a.tmps) = true then Oper.wp P { dst := d, op := op, type := t, pos := p, after := af, guard := g } a w K' Q else K' (a.put d undef) w)
    (hs : AllReadyH P md ops Q S fuel listed a w rs) (ho : ops[i]? = some { dst := d, op := op, type := t, pos := p, after := af, guard := g } := by rfl) : AllReadyH P md ops Q S fuel listed a w (i :: rs) := AllReadyH.cons ho h hs
theorem arc1 {i : Nat} (d : Option Nat) {op : _} {t : _} {p : _} {af : _} {g : _}
    (h : ∀ K' : Act → World → Prop, Shut (∀ a w, S w → (S w → wpAnyH P md ops Q S fuel (listed.setIfInBounds i true) a w) → K' a w) → if Region.wanted { dst := d, op := op, type := t, pos := p, after := af, guard := g } (yielded ops a.tmps) = true then Oper.wp P { dst := d, op := op, type := t, pos := p, after := af, guard := g } a w K' Q else K' (a.put d undef) w)
    (ho : ops[i]? = some { dst := d, op := op, type := t, pos := p, after := af, guard := g } := by rfl) : AllReadyH P md ops Q S fuel listed a w [i] := AllReadyH.cons ho h AllReadyH.nil
theorem blT {B : Nat} {w W : World} {p : Addr} {u : Value} (h : Below B w W) (hp : B ≤ p.block := by first | (simp; done) | (simp; omega) | omega) : Below B w (W.setCell p u) := h.setCell hp u
theorem blU {B : Nat} {w W : World} {o : Obj} (h : Below B w W) (hB : B ≤ w.heap.size := by first | exact Nat.le_refl _ | (simp; done) | (simp; omega) | omega) : Below B w (W.alloc o) := h.alloc (Nat.le_trans hB h.size) o
theorem cq : (∀ (a : Act) (d : Nat) (v : Value), a.put (some d) v = { a with tmps := a.tmps.setIfInBounds d v }) ∧ (∀ (a : Act) (v : Value), a.put none v = a) ∧ (∀ (l : List Value) (i : Nat) (x : Value), l.toArray.setIfInBounds i x = (l.set i x).toArray) ∧
    (∀ (x y : Value) (l : List Value), (x :: l).set 0 y = y :: l) ∧ ∀ (x y : Value) (i : Nat) (l : List Value), (x :: l).set (i + 1) y = x :: l.set i y :=
  ⟨fun _ _ _ => rfl, fun _ _ => rfl, fun _ _ _ => by simp, fun _ _ _ => rfl, fun _ _ _ _ => rfl⟩
end
end Go.Proofs.Ytpeogfcfiabcfaa

/-
  Flows with bounds: what no set forbids a flow is that of a circulation. Speaks of no program.
-/
import Derived.WalkKit
set_option linter.unusedVariables false
set_option linter.unusedSimpArgs false
namespace Go.Proofs.Ytpeogfcfiabcfaa

structure Fl where
  a : Nat
  b : Nat
  l : Int
  h : Int
def sumT (f : Nat → Int) : Nat → Int
  | 0 => 0
  | m + 1 => sumT f m + f m
theorem sumT_congr {f g : Nat → Int} : ∀ m, (∀ i, i < m → f i = g i) → sumT f m = sumT g m
  | 0, _ => rfl
  | m + 1, h => by rw [sumT, sumT, sumT_congr m (fun i hi => h i (by omega)), h m (by omega)]
theorem sumT_le {f g : Nat → Int} : ∀ m, (∀ i, i < m → f i ≤ g i) → sumT f m ≤ sumT g m
  | 0, _ => Int.le_refl _
  | m + 1, h => by
    rw [sumT, sumT]
    have h1 := sumT_le m (fun i hi => h i (by omega))
    have h2 := h m (by omega)
    omega
theorem sumT_add {f g : Nat → Int} : ∀ m, sumT (fun i => f i + g i) m = sumT f m + sumT g m
  | 0 => rfl
  | m + 1 => by rw [sumT, sumT, sumT, sumT_add m]; omega
theorem sumT_at {f : Nat → Int} (j : Nat) : ∀ m, j < m → sumT f m = sumT (fun i => if i = j then 0 else f i) m + f j
  | 0, h => by omega
  | m + 1, h => by
    rw [sumT, sumT]
    by_cases hj : j = m
    · subst hj
      rw [if_pos rfl, sumT_congr j (g := f) (fun i hi => if_neg (by omega))]
      omega
    · rw [sumT_at j m (by omega), if_neg (fun e => hj e.symm)]
      omega

def cIn (S : Nat → Bool) (e : Fl) : Bool := S e.b && !S e.a
def cOut (S : Nat → Bool) (e : Fl) : Bool := S e.a && !S e.b
def pk (c : Bool) (x : Int) : Int := if c then x else 0
theorem pk_t (x : Int) : pk true x = x := rfl
theorem pk_f (x : Int) : pk false x = 0 := rfl
def iLo (E : Nat → Fl) (m : Nat) (S : Nat → Bool) : Int := sumT (fun i => pk (cIn S (E i)) (E i).l) m
def iHi (E : Nat → Fl) (m : Nat) (S : Nat → Bool) : Int := sumT (fun i => pk (cIn S (E i)) (E i).h) m
def oLo (E : Nat → Fl) (m : Nat) (S : Nat → Bool) : Int := sumT (fun i => pk (cOut S (E i)) (E i).l) m
def oHi (E : Nat → Fl) (m : Nat) (S : Nat → Bool) : Int := sumT (fun i => pk (cOut S (E i)) (E i).h) m
def neg (S : Nat → Bool) : Nat → Bool := fun i => !S i
theorem cIn_neg (S : Nat → Bool) (e : Fl) : cIn (neg S) e = cOut S e := by simp [cIn, cOut, neg, Bool.and_comm]
theorem cOut_neg (S : Nat → Bool) (e : Fl) : cOut (neg S) e = cIn S e := by simp [cIn, cOut, neg, Bool.and_comm]
theorem iLo_neg (E : Nat → Fl) (m : Nat) (S : Nat → Bool) : iLo E m (neg S) = oLo E m S := by unfold iLo oLo; simp only [cIn_neg]
theorem iHi_neg (E : Nat → Fl) (m : Nat) (S : Nat → Bool) : iHi E m (neg S) = oHi E m S := by unfold iHi oHi; simp only [cIn_neg]
theorem oLo_neg (E : Nat → Fl) (m : Nat) (S : Nat → Bool) : oLo E m (neg S) = iLo E m S := by unfold iLo oLo; simp only [cOut_neg]
theorem oHi_neg (E : Nat → Fl) (m : Nat) (S : Nat → Bool) : oHi E m (neg S) = iHi E m S := by unfold iHi oHi; simp only [cOut_neg]

def Cut (E : Nat → Fl) (m : Nat) : Prop := (∀ i, i < m → (E i).l ≤ (E i).h) ∧ ∀ S, iLo E m S ≤ oHi E m S
theorem Cut.other {E : Nat → Fl} {m : Nat} (h : Cut E m) (S : Nat → Bool) : oLo E m S ≤ iHi E m S := by
  have := h.2 (neg S)
  rwa [iLo_neg, oHi_neg] at this

def AtLeast (E : Nat → Fl) (m j : Nat) (v : Int) : Prop := (E j).l ≤ v ∧ ∀ S, cIn S (E j) = true → oLo E m S - (iHi E m S - (E j).h) ≤ v
def AtMost (E : Nat → Fl) (m j : Nat) (v : Int) : Prop := v ≤ (E j).h ∧ ∀ S, cIn S (E j) = true → v ≤ oHi E m S - (iLo E m S - (E j).l)

def setE (E : Nat → Fl) (j : Nat) (v : Int) : Nat → Fl := fun i => if i = j then ⟨(E j).a, (E j).b, v, v⟩ else E i
theorem setE_at (E : Nat → Fl) (j : Nat) (v : Int) : setE E j v j = ⟨(E j).a, (E j).b, v, v⟩ := if_pos rfl
theorem setE_ne (E : Nat → Fl) (j i : Nat) (v : Int) (h : i ≠ j) : setE E j v i = E i := if_neg h
theorem setE_a (E : Nat → Fl) (j i : Nat) (v : Int) : (setE E j v i).a = (E i).a ∧ (setE E j v i).b = (E i).b := by
  unfold setE
  by_cases h : i = j
  · subst h; rw [if_pos rfl]; exact ⟨rfl, rfl⟩
  · rw [if_neg h]; exact ⟨rfl, rfl⟩
theorem cIn_set (E : Nat → Fl) (j i : Nat) (v : Int) (S : Nat → Bool) : cIn S (setE E j v i) = cIn S (E i) := by
  have h := setE_a E j i v
  simp only [cIn, h.1, h.2]
theorem cOut_set (E : Nat → Fl) (j i : Nat) (v : Int) (S : Nat → Bool) : cOut S (setE E j v i) = cOut S (E i) := by
  have h := setE_a E j i v
  simp only [cOut, h.1, h.2]
theorem iLo_set (E : Nat → Fl) (m j : Nat) (hj : j < m) (v : Int) (S : Nat → Bool) : iLo (setE E j v) m S = iLo E m S + pk (cIn S (E j)) (v - (E j).l) := by
  unfold iLo
  rw [sumT_at j m hj, sumT_at (f := fun i => pk (cIn S (E i)) (E i).l) j m hj]
  rw [sumT_congr m (g := fun i => if i = j then 0 else pk (cIn S (E i)) (E i).l) (fun i _ => by
    by_cases h : i = j
    · simp only [h, if_pos]
    · simp only [if_neg h, cIn_set, setE_ne E j i v h])]
  simp only [setE_at]
  show _ + pk (cIn S (E j)) v = _
  cases cIn S (E j) <;> simp only [pk_t, pk_f] <;> omega
theorem oHi_set (E : Nat → Fl) (m j : Nat) (hj : j < m) (v : Int) (S : Nat → Bool) : oHi (setE E j v) m S = oHi E m S + pk (cOut S (E j)) (v - (E j).h) := by
  unfold oHi
  rw [sumT_at j m hj, sumT_at (f := fun i => pk (cOut S (E i)) (E i).h) j m hj]
  rw [sumT_congr m (g := fun i => if i = j then 0 else pk (cOut S (E i)) (E i).h) (fun i _ => by
    by_cases h : i = j
    · simp only [h, if_pos]
    · simp only [if_neg h, cOut_set, setE_ne E j i v h])]
  simp only [setE_at]
  show _ + pk (cOut S (E j)) v = _
  cases cOut S (E j) <;> simp only [pk_t, pk_f] <;> omega

theorem Cut.fix {E : Nat → Fl} {m : Nat} (h : Cut E m) {j : Nat} (hj : j < m) {v : Int} (h1 : AtLeast E m j v) (h2 : AtMost E m j v) : Cut (setE E j v) m := by
  refine ⟨fun i hi => ?_, fun S => ?_⟩
  · by_cases e : i = j
    · subst e; rw [setE_at]; exact Int.le_refl _
    · rw [setE_ne E j i v e]; exact h.1 i hi
  · rw [iLo_set E m j hj, oHi_set E m j hj]
    have hc := h.2 S
    cases ha : S (E j).a <;> cases hb : S (E j).b
    · simp only [cIn, cOut, ha, hb, Bool.false_and, Bool.and_false, pk_f]; omega
    · have q := h2.2 S (by simp [cIn, ha, hb])
      simp only [cIn, cOut, ha, hb, Bool.false_and, Bool.true_and, Bool.not_false, pk_f, pk_t]; omega
    · have q := h1.2 (neg S) (by simp [cIn, neg, ha, hb])
      rw [oLo_neg, iHi_neg] at q
      simp only [cIn, cOut, ha, hb, Bool.false_and, Bool.true_and, Bool.not_false, pk_f, pk_t]; omega
    · simp only [cIn, cOut, ha, hb, Bool.true_and, Bool.not_true, pk_f]; omega

def gE (e : Fl) (S : Nat → Bool) : Int := pk (cOut S e) e.h - pk (cIn S e) e.l
def uni (S T : Nat → Bool) : Nat → Bool := fun i => S i || T i
def cap (S T : Nat → Bool) : Nat → Bool := fun i => S i && T i
theorem gE_cross (e : Fl) (h : e.l ≤ e.h) (S T : Nat → Bool) : gE e (uni S T) + gE e (cap S T) ≤ gE e S + gE e T := by
  unfold gE cIn cOut uni cap
  cases S e.a <;> cases S e.b <;> cases T e.a <;> cases T e.b <;> simp [pk] <;> omega
theorem gE_more (e : Fl) (S T : Nat → Bool) (h1 : cOut S e = true) (h2 : cIn T e = true) : gE e (uni S T) + gE e (cap S T) + (e.h - e.l) ≤ gE e S + gE e T := by
  revert h1 h2
  unfold gE cIn cOut uni cap
  cases S e.a <;> cases S e.b <;> cases T e.a <;> cases T e.b <;> simp [pk] <;> omega
theorem g_sum (E : Nat → Fl) (m : Nat) (S : Nat → Bool) : sumT (fun i => gE (E i) S) m = oHi E m S - iLo E m S := by
  unfold oHi iLo gE
  induction m with
  | zero => rfl
  | succ m ih => rw [sumT, sumT, sumT, ih]; omega
theorem sumT_le_at {f g : Nat → Int} (j : Nat) (c : Int) (m : Nat) (hj : j < m) (h : ∀ i, i < m → f i ≤ g i) (hc : f j + c ≤ g j) : sumT f m + c ≤ sumT g m := by
  rw [sumT_at j m hj, sumT_at (f := g) j m hj]
  have := sumT_le (f := fun i => if i = j then 0 else f i) (g := fun i => if i = j then 0 else g i) m (fun i hi => by
    by_cases e : i = j
    · simp only [if_pos e]; exact Int.le_refl _
    · simp only [if_neg e]; exact h i hi)
  omega
theorem Cut.cross {E : Nat → Fl} {m : Nat} (h : Cut E m) {j : Nat} (hj : j < m) (S T : Nat → Bool) (hS : cOut S (E j) = true) (hT : cIn T (E j) = true) : (E j).h - (E j).l ≤ (oHi E m S - iLo E m S) + (oHi E m T - iLo E m T) := by
  have h1 := h.2 (uni S T)
  have h2 := h.2 (cap S T)
  have hs := sumT_le_at (f := fun i => gE (E i) (uni S T) + gE (E i) (cap S T)) (g := fun i => gE (E i) S + gE (E i) T) j ((E j).h - (E j).l) m hj (fun i hi => gE_cross _ (h.1 i hi) S T) (gE_more _ S T hS hT)
  rw [sumT_add, sumT_add, g_sum, g_sum, g_sum, g_sum] at hs
  omega

theorem greatest {P : Int → Prop} (x : Int) (hx : P x) (b : Int) (hb : ∀ y, P y → y ≤ b) : ∃ v, P v ∧ ∀ y, P y → y ≤ v := by
  obtain ⟨k, hk⟩ : ∃ k : Nat, b - x ≤ k := ⟨(b - x).toNat, by omega⟩
  induction k generalizing x with
  | zero => exact ⟨x, hx, fun y hy => by have := hb y hy; omega⟩
  | succ k ih =>
    by_cases hm : ∃ y, P y ∧ x < y
    · obtain ⟨y, hy, hlt⟩ := hm
      exact ih y hy (by omega)
    · exact ⟨x, hx, fun y hy => Classical.byContradiction fun hn => hm ⟨y, hy, by omega⟩⟩

theorem Cut.some {E : Nat → Fl} {m : Nat} (h : Cut E m) {j : Nat} (hj : j < m) : ∃ v, AtLeast E m j v ∧ AtMost E m j v := by
  obtain ⟨v, hv, hm⟩ := greatest (P := fun v => v = (E j).l ∨ ∃ S, cIn S (E j) = true ∧ v = oLo E m S - (iHi E m S - (E j).h)) (E j).l (.inl rfl) (E j).h (by
    rintro y (rfl | ⟨S, hS, rfl⟩)
    · exact h.1 j hj
    · have := h.other S; omega)
  refine ⟨v, ⟨hm _ (.inl rfl), fun S hS => hm _ (.inr ⟨S, hS, rfl⟩)⟩, ?_, fun T hT => ?_⟩
  · rcases hv with rfl | ⟨S, hS, rfl⟩
    · exact h.1 j hj
    · have := h.other S; omega
  · rcases hv with rfl | ⟨S, hS, rfl⟩
    · have := h.2 T; omega
    · have := h.cross hj (neg S) T (by rw [cOut_neg]; exact hS) hT
      rw [oHi_neg, iLo_neg] at this
      omega

def Circ (E : Nat → Fl) (m : Nat) (x : Nat → Int) : Prop := (∀ i, i < m → (E i).l ≤ x i ∧ x i ≤ (E i).h) ∧ ∀ S, sumT (fun i => pk (cIn S (E i)) (x i)) m = sumT (fun i => pk (cOut S (E i)) (x i)) m

theorem Cut.all {E : Nat → Fl} {m : Nat} (h : Cut E m) (hf : ∀ i, i < m → (E i).l = (E i).h) : Circ E m (fun i => (E i).l) := by
  refine ⟨fun i hi => ⟨Int.le_refl _, by have := hf i hi; show (E i).l ≤ (E i).h; omega⟩, fun S => ?_⟩
  have h1 := h.2 S
  have h2 := h.other S
  have e1 : oHi E m S = oLo E m S := sumT_congr m (fun i hi => by rw [hf i hi])
  have e2 : iHi E m S = iLo E m S := sumT_congr m (fun i hi => by rw [hf i hi])
  rw [e1] at h1
  rw [e2] at h2
  exact Int.le_antisymm h1 h2

theorem Cut.circ {m : Nat} : ∀ (k : Nat) (E : Nat → Fl), Cut E m → (∀ i, i < m → (i < m - k → (E i).l = (E i).h)) → ∃ x, Circ E m x
  | 0, E, h, hf => ⟨_, h.all (fun i hi => hf i hi (by omega))⟩
  | k + 1, E, h, hf => by
    by_cases hk : m - (k + 1) < m - k
    · obtain ⟨v, h1, h2⟩ := h.some (j := m - (k + 1)) (by omega)
      obtain ⟨x, hx1, hx2⟩ := Cut.circ k (setE E (m - (k + 1)) v) (h.fix (by omega) h1 h2) (fun i hi hlt => by
        by_cases e : i = m - (k + 1)
        · rw [e, setE_at]
        · rw [setE_ne E _ i v e]; exact hf i hi (by omega))
      refine ⟨x, fun i hi => ?_, fun S => ?_⟩
      · have := hx1 i hi
        by_cases e : i = m - (k + 1)
        · subst e
          rw [setE_at] at this
          have a1 := h1.1
          have a2 := h2.1
          simp only at this
          omega
        · rw [setE_ne E _ i v e] at this; exact this
      · have := hx2 S
        simp only [cIn_set, cOut_set] at this
        exact this
    · exact Cut.circ k E h (fun i hi hlt => hf i hi (by omega))

theorem Cut.exact {E : Nat → Fl} {m : Nat} (h : Cut E m) {j : Nat} (hj : j < m) {v : Int} (h1 : AtLeast E m j v) (h2 : AtMost E m j v) : ∃ x, Circ E m x ∧ x j = v := by
  obtain ⟨x, hx1, hx2⟩ := Cut.circ m (setE E j v) (h.fix hj h1 h2) (fun i hi hlt => by omega)
  have hj' := hx1 j hj
  rw [setE_at] at hj'
  simp only at hj'
  refine ⟨x, ⟨fun i hi => ?_, fun S => ?_⟩, by omega⟩
  · have := hx1 i hi
    by_cases e : i = j
    · subst e
      have a1 := h1.1
      have a2 := h2.1
      omega
    · rw [setE_ne E _ i v e] at this; exact this
  · have := hx2 S
    simp only [cIn_set, cOut_set] at this
    exact this
theorem Cut.exists {E : Nat → Fl} {m : Nat} (h : Cut E m) : ∃ x, Circ E m x := Cut.circ m E h (fun i hi hlt => by omega)

theorem Circ.cut {E : Nat → Fl} {m : Nat} {x : Nat → Int} (h : Circ E m x) : Cut E m := by
  refine ⟨fun i hi => by have := h.1 i hi; omega, fun S => ?_⟩
  have h1 : iLo E m S ≤ sumT (fun i => pk (cIn S (E i)) (x i)) m := sumT_le m (fun i hi => by have := h.1 i hi; cases cIn S (E i) <;> simp only [pk_t, pk_f] <;> omega)
  have h2 : sumT (fun i => pk (cOut S (E i)) (x i)) m ≤ oHi E m S := sumT_le m (fun i hi => by have := h.1 i hi; cases cOut S (E i) <;> simp only [pk_t, pk_f] <;> omega)
  have := h.2 S
  omega
theorem Circ.keeps {E : Nat → Fl} {m : Nat} {x : Nat → Int} (h : Circ E m x) {j : Nat} (hj : j < m) : AtLeast E m j (x j) ∧ AtMost E m j (x j) := by
  have key : ∀ S, cIn S (E j) = true → oLo E m S ≤ sumT (fun i => pk (cOut S (E i)) (x i)) m ∧ sumT (fun i => pk (cOut S (E i)) (x i)) m ≤ oHi E m S ∧ iLo E m S + (x j - (E j).l) ≤ sumT (fun i => pk (cIn S (E i)) (x i)) m ∧ sumT (fun i => pk (cIn S (E i)) (x i)) m + ((E j).h - x j) ≤ iHi E m S := by
    intro S hS
    refine ⟨sumT_le m (fun i hi => ?_), sumT_le m (fun i hi => ?_), sumT_le_at j _ m hj (fun i hi => ?_) ?_, sumT_le_at j _ m hj (fun i hi => ?_) ?_⟩
    · have := h.1 i hi; cases cOut S (E i) <;> simp only [pk_t, pk_f] <;> omega
    · have := h.1 i hi; cases cOut S (E i) <;> simp only [pk_t, pk_f] <;> omega
    · have := h.1 i hi; cases cIn S (E i) <;> simp only [pk_t, pk_f] <;> omega
    · simp only [hS, pk_t]; omega
    · have := h.1 i hi; cases cIn S (E i) <;> simp only [pk_t, pk_f] <;> omega
    · simp only [hS, pk_t]; omega
  have hx := h.1 j hj
  refine ⟨⟨hx.1, fun S hS => ?_⟩, hx.2, fun S hS => ?_⟩ <;>
  · obtain ⟨a, b, c, d⟩ := key S hS
    have := h.2 S
    omega
end Go.Proofs.Ytpeogfcfiabcfaa

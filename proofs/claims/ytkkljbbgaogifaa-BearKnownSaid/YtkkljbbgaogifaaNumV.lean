/-
  Shares fall with the distance and the stand, limits grow with the ice; a single load's verdict. For BearLeast and BearPlaces. Speaks of no program.
  The first of some numbers that is so, and the last one; Need and Stands by them. Speaks of no program.
  A row of trucks with a gap: with a greater gap no burden is greater; its verdicts where the ice is one thickness and has no cracks. Speaks of no program.
  Ascending numbers put together to spans, each as long as can be. For Speeds. Speaks of no program.
  Waves: at which depths a speed is critical, and the verdict on a speed. Speaks of no program.
-/
import Derived.Test.YtkkljbbgaogifaaMean
import Derived.Test.YtkkljbbgaogifaaRow
set_option linter.unusedVariables false
set_option linter.unusedSimpArgs false
namespace Go.Proofs.Ytkkljbbgaogifaa
open Go.RowKit

theorem Tab.Ok.down {t : Tab} (h : t.Ok) : ∀ (j i : Nat), i ≤ j → j < t.n → t.P j ≤ t.P i
  | 0, i, hi, _ => by obtain rfl : i = 0 := by omega
                      exact Int.le_refl _
  | j + 1, i, hi, hj => by
    by_cases e : i = j + 1
    · subst e; exact Int.le_refl _
    · have h1 := (h.next j hj).2
      have := h.down j i (by omega) (by omega)
      omega
theorem scanP_ge (F P : Nat → Int) (n l q : Int) (h0 : F 0 ≤ n) : ∀ m, 0 < m → (∀ i, i < m → q ≤ P i) → q ≤ scanP F P n l m
  | 0, h, _ => by omega
  | m + 1, _, h => by
    rw [scanP]
    by_cases e : F m ≤ n
    · rw [if_pos e]; exact h m (by omega)
    · rw [if_neg e]
      by_cases z : m = 0
      · subst z; omega
      · exact scanP_ge F P n l q h0 m (by omega) (fun i hi => h i (by omega))
theorem Tab.Ok.val_anti {t : Tab} (h : t.Ok) {a b : Int} (ha : 0 ≤ a) (hab : a ≤ b) : t.val b ≤ t.val a := by
  have h0 := h.f0
  have key : ∀ m, m ≤ t.n → scanP t.F t.P b 0 m ≤ scanP t.F t.P a 0 m := by
    intro m
    induction m with
    | zero => intro _; exact Int.le_refl _
    | succ m ih =>
      intro hm
      rw [scanP, scanP]
      by_cases e1 : t.F m ≤ a
      · rw [if_pos e1, if_pos (by omega)]; exact Int.le_refl _
      · rw [if_neg e1]
        by_cases e2 : t.F m ≤ b
        · rw [if_pos e2]
          by_cases z : m = 0
          · subst z; omega
          · exact scanP_ge t.F t.P a 0 (t.P m) (by omega) m (by omega) (fun i hi => h.down m i (by omega) (by omega))
        · rw [if_neg e2]; exact ih (by omega)
  exact key t.n (Nat.le_refl _)
theorem Tab.Ok.val_zero {t : Tab} (h : t.Ok) : t.val 0 = 1000000 := by
  have h1 := h.n1
  rw [h.val_eq (k := 0) (by omega) (by rw [h.f0]; exact Int.le_refl _) (fun q => by have := (h.next 0 q).1; have := h.f0; omega), h.p0]
theorem Pl.Ok.lim_stand {p : Pl} (hp : p.Ok) (best : Bool) {th a b : Int} (ht : 0 ≤ th) (ha : 0 ≤ a) (hab : a ≤ b) : limV p best th b ≤ limV p best th a := by
  have hs : 0 ≤ endV best p.s0 p.s1 := by have := hp.s0; have := hp.s01; cases best <;> simp [endV] <;> omega
  exact Int.mul_le_mul_of_nonneg_left (hp.C.val_anti ha hab) (Int.mul_nonneg (Int.mul_nonneg hs ht) ht)
theorem Pl.Ok.lim_thick {p : Pl} (hp : p.Ok) (best : Bool) {a b : Int} (st : Int) (ha : 0 ≤ a) (hab : a ≤ b) : limV p best a st ≤ limV p best b st :=
  lim_mono (by have := hp.s0; have := hp.s01; cases best <;> simp [endV] <;> omega) ha (hp.C.val_in st).1 (Int.le_refl _) hab
theorem verd_alone {p : Pl} (hp : p.Ok) {I0 I1 : Nat → Int} {C0 C1 : Nat → Int} {L : Nat → Ld} {x : Ld} (hx : L 0 = x) :
    verdV p I0 I1 0 C0 C1 1 L x = 1 ↔ x.w1 ≤ limV p false (I0 (x.me / 100).toNat) x.st / 1000000000000 := by
  have e1 : burdV p false 1 L x.me = x.w1 * 1000000 := by
    subst hx
    have e : farV (L 0).me (L 0).me = 0 := by simp [farV]
    simp only [burdV, sumV, partL, e, hp.S.val_zero, endV, Bool.not_false, if_true]
    omega
  have e2 : thickV p false I0 I1 0 C0 C1 x.me = I0 (x.me / 100).toNat := by
    simp [thickV, thinV, nearV, anyV, endV]
  have e3 : bearsV p false I0 I1 0 C0 C1 1 L x = decide (x.w1 ≤ limV p false (I0 (x.me / 100).toNat) x.st / 1000000000000) := by
    unfold bearsV
    rw [e1, e2]
    refine decide_eq_decide.2 ?_
    omega
  unfold verdV
  rw [e3]
  by_cases h : x.w1 ≤ limV p false (I0 (x.me / 100).toNat) x.st / 1000000000000
  · simp [h]
  · simp only [h, decide_false, Bool.false_eq_true, if_false, iff_false]
    split <;> omega
end Go.Proofs.Ytkkljbbgaogifaa

namespace Go.Proofs.Ytkkljbbgaogifaa
open Go.RowKit

def lstV (f : Nat → Bool) : Nat → Nat
  | 0 => 0
  | n + 1 => if lstV f n < n then lstV f n else if f n = true then n else n + 1
theorem lstV_prop (f : Nat → Bool) : ∀ n, lstV f n ≤ n ∧ (lstV f n < n → f (lstV f n) = true) ∧ ∀ j, j < lstV f n → f j = false
  | 0 => ⟨Nat.le_refl _, fun h => by simp [lstV] at h, fun j h => by simp [lstV] at h⟩
  | n + 1 => by
    obtain ⟨h1, h2, h3⟩ := lstV_prop f n
    rw [lstV]
    by_cases a : lstV f n < n
    · rw [if_pos a]
      exact ⟨by omega, fun _ => h2 a, h3⟩
    · rw [if_neg a]
      have e : lstV f n = n := by omega
      rw [e] at h3
      by_cases b : f n = true
      · rw [if_pos b]
        exact ⟨by omega, fun _ => b, h3⟩
      · rw [if_neg b]
        refine ⟨Nat.le_refl _, fun h => by omega, fun j hj => ?_⟩
        by_cases c : j = n
        · subst c; simpa using b
        · exact h3 j (by omega)
theorem lstV_eq {f : Nat → Bool} {n k : Nat} (h1 : k ≤ n) (h2 : k < n → f k = true) (h3 : ∀ j, j < k → f j = false) : lstV f n = k := by
  obtain ⟨a, b, c⟩ := lstV_prop f n
  by_cases x : lstV f n < k
  · have := h3 _ x
    rw [b (by omega)] at this
    simp at this
  · by_cases y : k < lstV f n
    · have := c k y
      rw [h2 (by omega)] at this
      simp at this
    · omega
theorem lstV_two {f : Nat → Bool} {n k : Nat} (hm : ∀ i j, i ≤ j → f i = true → f j = true) (h1 : k ≤ n) (h2 : k < n → f k = true) (h3 : ∀ j, k = j + 1 → f j = false) : lstV f n = k :=
  lstV_eq h1 h2 fun j hj => by
    obtain ⟨m, rfl⟩ : ∃ m, k = m + 1 := ⟨k - 1, by omega⟩
    have a := h3 m rfl
    cases e : f j with
    | false => rfl
    | true => rw [hm j m (by omega) e] at a; exact a
def lastV (f : Nat → Bool) : Nat → Int
  | 0 => -1
  | n + 1 => if f n = true then (n : Int) else lastV f n
theorem lastV_in (f : Nat → Bool) : ∀ n, -1 ≤ lastV f n ∧ lastV f n < n
  | 0 => by simp [lastV]
  | n + 1 => by
    have := lastV_in f n
    rw [lastV]
    split <;> omega
theorem lastV_lst {f : Nat → Bool} (hm : ∀ i j, i ≤ j → f j = true → f i = true) : ∀ n, lastV f n = (lstV (fun i => !f i) n : Int) - 1
  | 0 => by simp [lastV, lstV]
  | n + 1 => by
    have ih := lastV_lst hm n
    obtain ⟨h1, h2, h3⟩ := lstV_prop (fun i => !f i) n
    rw [lastV, lstV]
    by_cases e : f n = true
    · have a : ¬ lstV (fun i => !f i) n < n := fun q => by
        have := h2 q
        simp only [hm _ n (by omega) e, Bool.not_true] at this
        simp at this
      rw [if_pos e, if_neg a, if_neg (by simp [e])]
      omega
    · rw [if_neg e, ih]
      by_cases a : lstV (fun i => !f i) n < n
      · rw [if_pos a]
      · rw [if_neg a, if_pos (by simpa using e)]
        omega
def needF (p : Pl) (wt mi : Int) (d : Nat) : Bool := decide (wt ≤ limV p false (d : Int) mi / 1000000000000)
def standF (p : Pl) (th wt : Int) (d : Nat) : Bool := decide (wt ≤ limV p false th (d : Int) / 1000000000000)
theorem need_up {p : Pl} (hp : p.Ok) (wt mi : Int) (i j : Nat) (h : i ≤ j) (hi : needF p wt mi i = true) : needF p wt mi j = true := by
  have := hp.lim_thick false (a := (i : Int)) (b := (j : Int)) mi (by omega) (by omega)
  simp only [needF, decide_eq_true_eq] at hi ⊢
  omega
theorem stand_down {p : Pl} (hp : p.Ok) {th : Int} (ht : 0 ≤ th) (wt : Int) (i j : Nat) (h : i ≤ j) (hj : standF p th wt j = true) : standF p th wt i = true := by
  have := hp.lim_stand false (th := th) (a := (i : Int)) (b := (j : Int)) ht (by omega) (by omega)
  simp only [standF, decide_eq_true_eq] at hj ⊢
  omega
end Go.Proofs.Ytkkljbbgaogifaa

namespace Go.Proofs.Ytkkljbbgaogifaa
open Go.RowKit

def rowL (W0 W1 : Nat → Int) (g : Int) (i : Nat) : Ld := ⟨g * (i : Int), W0 i, W1 i, 0⟩
def rowB (p : Pl) (th : Int) (W0 W1 : Nat → Int) (n : Nat) (g : Int) (i : Nat) : Bool := decide (burdV p false n (rowL W0 W1 g) (g * (i : Int)) * 1000000 ≤ limV p false th 0)
def allB (f : Nat → Bool) : Nat → Bool
  | 0 => true
  | n + 1 => allB f n && f n
theorem allB_iff (f : Nat → Bool) : ∀ n, allB f n = true ↔ ∀ i, i < n → f i = true
  | 0 => by simp [allB]
  | n + 1 => by
    rw [allB, Bool.and_eq_true, allB_iff f n]
    exact ⟨fun h i hi => by
      by_cases e : i = n
      · subst e; exact h.2
      · exact h.1 i (by omega), fun h => ⟨fun i hi => h i (by omega), h n (by omega)⟩⟩
def rowV (p : Pl) (th : Int) (W0 W1 : Nat → Int) (n : Nat) (g : Int) : Bool := allB (rowB p th W0 W1 n g) n
theorem far_times {g : Int} (h : 0 ≤ g) (i k : Nat) : farV (g * (i : Int)) (g * (k : Int)) = g * farV (i : Int) (k : Int) := by
  have e1 : g * (i : Int) - g * (k : Int) = g * ((i : Int) - (k : Int)) := (Int.mul_sub g _ _).symm
  have e2 : g * (k : Int) - g * (i : Int) = g * ((k : Int) - (i : Int)) := (Int.mul_sub g _ _).symm
  unfold farV
  rw [e1, e2]
  rcases Int.le_total (k : Int) (i : Int) with q | q
  · have a := Int.mul_le_mul_of_nonneg_left (show (k : Int) - (i : Int) ≤ (i : Int) - (k : Int) by omega) h
    rw [Int.max_eq_left a, Int.max_eq_left (by omega)]
  · have a := Int.mul_le_mul_of_nonneg_left (show (i : Int) - (k : Int) ≤ (k : Int) - (i : Int) by omega) h
    rw [Int.max_eq_right a, Int.max_eq_right (by omega)]
theorem far_gap {g g' : Int} (h0 : 0 ≤ g) (h : g ≤ g') (i k : Nat) : 0 ≤ farV (g * (i : Int)) (g * (k : Int)) ∧ farV (g * (i : Int)) (g * (k : Int)) ≤ farV (g' * (i : Int)) (g' * (k : Int)) := by
  have n0 : 0 ≤ farV (i : Int) (k : Int) := by unfold farV; omega
  rw [far_times h0, far_times (by omega)]
  exact ⟨Int.mul_nonneg h0 n0, Int.mul_le_mul_of_nonneg_right h n0⟩
theorem burd_gap {p : Pl} (hp : p.Ok) {W0 W1 : Nat → Int} {n : Nat} {g g' : Int} (h0 : 0 ≤ g) (h : g ≤ g') (hW : ∀ i, i < n → 0 ≤ W1 i) (i : Nat) :
    burdV p false n (rowL W0 W1 g') (g' * (i : Int)) ≤ burdV p false n (rowL W0 W1 g) (g * (i : Int)) := by
  unfold burdV
  refine sumV_le n fun k hk => ?_
  have q := far_gap h0 h i k
  have r := hp.S.val_anti q.1 q.2
  exact Int.mul_le_mul_of_nonneg_left r (hW k hk)
theorem row_gap {p : Pl} (hp : p.Ok) {th : Int} {W0 W1 : Nat → Int} {n : Nat} {g g' : Int} (h0 : 0 ≤ g) (h : g ≤ g') (hW : ∀ i, i < n → 0 ≤ W1 i) (hr : rowV p th W0 W1 n g = true) : rowV p th W0 W1 n g' = true := by
  unfold rowV at hr ⊢
  rw [allB_iff] at hr ⊢
  intro i hi
  have a := hr i hi
  have b := burd_gap hp h0 h hW i (W0 := W0)
  simp only [rowB, decide_eq_true_eq] at a ⊢
  omega
theorem verd_row {p : Pl} {th : Int} {W0 W1 : Nat → Int} {n : Nat} {g : Int} {I0 I1 C0 C1 : Nat → Int} (i : Nat) (hI : I0 ((g * (i : Int)) / 100).toNat = th) :
    verdV p I0 I1 0 C0 C1 n (rowL W0 W1 g) (rowL W0 W1 g i) = 1 ↔ rowB p th W0 W1 n g i = true := by
  have e : bearsV p false I0 I1 0 C0 C1 n (rowL W0 W1 g) (rowL W0 W1 g i) = rowB p th W0 W1 n g i := by
    have e2 : thickV p false I0 I1 0 C0 C1 (g * (i : Int)) = th := by
      simp [thickV, thinV, nearV, anyV, endV, hI]
    unfold bearsV rowB
    show decide (burdV p false n (rowL W0 W1 g) (g * (i : Int)) * 1000000 ≤ limV p false (thickV p false I0 I1 0 C0 C1 (g * (i : Int))) 0) = _
    rw [e2]
  unfold verdV
  rw [e]
  cases rowB p th W0 W1 n g i with
  | true => simp
  | false => cases bearsV p true I0 I1 0 C0 C1 n (rowL W0 W1 g) (rowL W0 W1 g i) <;> simp
end Go.Proofs.Ytkkljbbgaogifaa

namespace Go.Proofs.Ytkkljbbgaogifaa
open Go.RowKit

structure Sp where
  m : Nat
  A : Nat → Int
  B : Nat → Int
def spStep (s : Sp) (v : Nat) : Sp :=
  if 0 < s.m ∧ s.B (s.m - 1) = (v : Int) - 1 then ⟨s.m, s.A, upI s.B (s.m - 1) v⟩ else ⟨s.m + 1, upI s.A s.m v, upI s.B s.m v⟩
def spV (f : Nat → Bool) : Nat → Sp
  | 0 => ⟨0, fun _ => 0, fun _ => 0⟩
  | v + 1 => if f v = true then spStep (spV f v) v else spV f v
structure SpOk (f : Nat → Bool) (v : Nat) (s : Sp) : Prop where
  each : ∀ i, i < s.m → 0 ≤ s.A i ∧ s.A i ≤ s.B i ∧ s.B i < (v : Int)
  apart : ∀ i, i + 1 < s.m → s.B i + 1 < s.A (i + 1)
  all : ∀ x : Nat, x < v → (f x = true ↔ ∃ i, i < s.m ∧ s.A i ≤ (x : Int) ∧ (x : Int) ≤ s.B i)
theorem SpOk.lt {f : Nat → Bool} {v : Nat} {s : Sp} (h : SpOk f v s) : ∀ (j i : Nat), i < j → j < s.m → s.B i + 1 < s.A j
  | 0, i, hi, _ => by omega
  | j + 1, i, hi, hj => by
    by_cases e : i = j
    · subst e; exact h.apart i hj
    · have a := h.lt j i (by omega) (by omega)
      have b := h.each j (by omega)
      have c := h.apart j hj
      omega
theorem spV_ok (f : Nat → Bool) : ∀ v, SpOk f v (spV f v)
  | 0 => ⟨fun i hi => by simp [spV] at hi, fun i hi => by simp [spV] at hi, fun x hx => by omega⟩
  | v + 1 => by
    have ih := spV_ok f v
    rw [spV]
    generalize spV f v = s at ih
    by_cases hf : f v = true
    · rw [if_pos hf]
      unfold spStep
      by_cases hl : 0 < s.m ∧ s.B (s.m - 1) = (v : Int) - 1
      · rw [if_pos hl]
        obtain ⟨h0, h1⟩ := hl
        refine ⟨fun i hi => ?_, fun i hi => ?_, fun x hx => ?_⟩
        · have q := ih.each i hi
          by_cases e : i = s.m - 1
          · subst e; simp only [upI_at]; omega
          · simp only [upI_ne _ _ _ _ e]; omega
        · have q := ih.apart i hi
          simp only at hi
          simp only [upI_ne _ _ _ _ (show i ≠ s.m - 1 by omega)]
          exact q
        · by_cases e : x = v
          · subst e
            refine ⟨fun _ => ⟨s.m - 1, by simp only; omega, ?_, ?_⟩, fun _ => hf⟩
            · have q := ih.each (s.m - 1) (by omega); simp only; omega
            · simp only [upI_at]; omega
          · rw [ih.all x (by omega)]
            constructor
            · rintro ⟨i, hi, a, b⟩
              refine ⟨i, hi, a, ?_⟩
              by_cases e2 : i = s.m - 1
              · subst e2; simp only [upI_at]; omega
              · simp only [upI_ne _ _ _ _ e2]; exact b
            · rintro ⟨i, hi, a, b⟩
              refine ⟨i, hi, a, ?_⟩
              by_cases e2 : i = s.m - 1
              · subst e2; omega
              · simp only [upI_ne _ _ _ _ e2] at b; exact b
      · rw [if_neg hl]
        have last : 0 < s.m → s.B (s.m - 1) < (v : Int) - 1 := fun h0 => by
          have q := ih.each (s.m - 1) (by omega)
          have r : ¬ s.B (s.m - 1) = (v : Int) - 1 := fun e => hl ⟨h0, e⟩
          omega
        refine ⟨fun i hi => ?_, fun i hi => ?_, fun x hx => ?_⟩
        · simp only at hi
          by_cases e : i = s.m
          · subst e; simp only [upI_at]; omega
          · have q := ih.each i (by omega)
            simp only [upI_ne _ _ _ _ e]; omega
        · simp only at hi
          by_cases e : i + 1 = s.m
          · have q := last (by omega)
            rw [show s.m - 1 = i by omega] at q
            simp only [e, upI_at, upI_ne _ _ _ _ (show i ≠ s.m by omega)]
            omega
          · have q := ih.apart i (by omega)
            simp only [upI_ne _ _ _ _ (show i ≠ s.m by omega), upI_ne _ _ _ _ (show i + 1 ≠ s.m by omega)]
            exact q
        · by_cases e : x = v
          · subst e
            exact ⟨fun _ => ⟨s.m, by simp only; omega, by simp only [upI_at]; omega, by simp only [upI_at]; omega⟩, fun _ => hf⟩
          · rw [ih.all x (by omega)]
            constructor
            · rintro ⟨i, hi, a, b⟩
              exact ⟨i, by simp only; omega, by simp only [upI_ne _ _ _ _ (show i ≠ s.m by omega)]; exact a, by simp only [upI_ne _ _ _ _ (show i ≠ s.m by omega)]; exact b⟩
            · rintro ⟨i, hi, a, b⟩
              simp only at hi
              by_cases e2 : i = s.m
              · subst e2; simp only [upI_at] at a; omega
              · simp only [upI_ne _ _ _ _ e2] at a b
                exact ⟨i, by omega, a, b⟩
    · rw [if_neg hf]
      refine ⟨fun i hi => by have := ih.each i hi; omega, ih.apart, fun x hx => ?_⟩
      by_cases e : x = v
      · subst e
        refine ⟨fun h => absurd h hf, ?_⟩
        rintro ⟨i, hi, a, b⟩
        have := ih.each i hi
        omega
      · exact ih.all x (by omega)
end Go.Proofs.Ytkkljbbgaogifaa

namespace Go.Proofs.Ytkkljbbgaogifaa
open Go.RowKit

def loB (p : Pl) (shore : Int) : Int := if p.sh ≤ shore then p.lo else p.lo * (1000000 - p.wi) / 1000000
def hiB (p : Pl) (shore : Int) : Int := if p.sh ≤ shore then p.hi else (p.hi * (1000000 + p.wi) + 1000000 - 1) / 1000000
def critV (p : Pl) (shore v : Int) (d : Nat) : Bool := decide (loB p shore * p.gr * (d : Int) ≤ v * v * 1000000) && decide (v * v * 1000000 ≤ hiB p shore * p.gr * (d : Int))
def cntB (c : Nat → Bool) (k : Nat) : Nat → Nat
  | 0 => 0
  | m + 1 => if c (k + m) = true then cntB c k m + 1 else cntB c k m
theorem cntB_le (c : Nat → Bool) (k : Nat) : ∀ m, cntB c k m ≤ m
  | 0 => Nat.le_refl _
  | m + 1 => by
    rw [cntB]
    have := cntB_le c k m
    split <;> omega
theorem cntB_zero (c : Nat → Bool) (k : Nat) : ∀ m, cntB c k m = 0 ↔ ∀ i, i < m → c (k + i) = false
  | 0 => by simp [cntB]
  | m + 1 => by
    have h := cntB_zero c k m
    rw [cntB]
    cases e : c (k + m) with
    | true =>
      rw [if_pos rfl]
      exact ⟨fun q => by omega, fun q => by have := q m (by omega); rw [e] at this; simp at this⟩
    | false =>
      rw [if_neg (by simp), h]
      exact ⟨fun q i hi => by
        by_cases z : i = m
        · subst z; exact e
        · exact q i (by omega), fun q i hi => q i (by omega)⟩
theorem cntB_all (c : Nat → Bool) (k : Nat) : ∀ m, cntB c k m = m ↔ ∀ i, i < m → c (k + i) = true
  | 0 => by simp [cntB]
  | m + 1 => by
    have h := cntB_all c k m
    have hl := cntB_le c k m
    rw [cntB]
    cases e : c (k + m) with
    | true =>
      rw [if_pos rfl]
      constructor
      · intro q i hi
        by_cases z : i = m
        · subst z; exact e
        · exact h.1 (by omega) i (by omega)
      · intro q
        have := h.2 (fun i hi => q i (by omega))
        omega
    | false =>
      rw [if_neg (by simp)]
      exact ⟨fun q => by omega, fun q => by have := q m (by omega); rw [e] at this; simp at this⟩
def calmV (p : Pl) (d0 d1 shore v : Int) : Int :=
  if cntB (critV p shore v) d0.toNat (d1 - d0 + 1).toNat = 0 then 1 else if cntB (critV p shore v) d0.toNat (d1 - d0 + 1).toNat = (d1 - d0 + 1).toNat then 2 else 3
theorem lo_in {p : Pl} (hp : p.Ok) (shore : Int) : 0 ≤ loB p shore ∧ loB p shore ≤ 4000000 := by
  have := hp.lo0; have := hp.loh; have := hp.hi1; have := hp.wi0; have := hp.wi1
  unfold loB
  split
  · omega
  · have a := Int.mul_nonneg (show 0 ≤ p.lo by omega) (show 0 ≤ 1000000 - p.wi by omega)
    have b := Int.mul_le_mul_of_nonneg_left (show 1000000 - p.wi ≤ 1000000 by omega) (show 0 ≤ p.lo by omega)
    omega
theorem hi_in {p : Pl} (hp : p.Ok) (shore : Int) : 0 ≤ hiB p shore ∧ hiB p shore ≤ 8000000 := by
  have := hp.lo0; have := hp.loh; have := hp.hi1; have := hp.wi0; have := hp.wi1
  unfold hiB
  split
  · omega
  · have a := Int.mul_nonneg (show 0 ≤ p.hi by omega) (show 0 ≤ 1000000 + p.wi by omega)
    have b := Int.mul_le_mul_of_nonneg_left (show 1000000 + p.wi ≤ 2000000 by omega) (show 0 ≤ p.hi by omega)
    omega
theorem crit_ends {p : Pl} (hp : p.Ok) {shore v : Int} {f b : Nat} (f1 : f ≤ 10001) (b1 : b ≤ 10001) (f2 : f < 10001 → v * v * 1000000 ≤ hiB p shore * p.gr * (f : Int)) (f3 : ∀ j : Nat, f = j + 1 → ¬ v * v * 1000000 ≤ hiB p shore * p.gr * (j : Int))
    (b2 : b < 10001 → v * v * 1000000 < loB p shore * p.gr * (b : Int)) (b3 : ∀ j : Nat, b = j + 1 → ¬ v * v * 1000000 < loB p shore * p.gr * (j : Int)) (d : Nat) (hd : d ≤ 10000) :
    critV p shore v d = true ↔ f ≤ d ∧ d < b := by
  have g0 := hp.gr0
  have a := Int.mul_nonneg (hi_in hp shore).1 (show 0 ≤ p.gr by omega)
  have c := Int.mul_nonneg (lo_in hp shore).1 (show 0 ≤ p.gr by omega)
  have mono : ∀ {X : Int} {m n : Nat}, 0 ≤ X → m ≤ n → X * (m : Int) ≤ X * (n : Int) := fun hX hmn => Int.mul_le_mul_of_nonneg_left (by omega) hX
  have h1 : v * v * 1000000 ≤ hiB p shore * p.gr * (d : Int) ↔ f ≤ d := by
    constructor
    · intro q
      by_cases z : f ≤ d
      · exact z
      · obtain ⟨j, rfl⟩ : ∃ j, f = j + 1 := ⟨f - 1, by omega⟩
        have := mono a (show d ≤ j by omega)
        exact absurd (Int.le_trans q this) (f3 j rfl)
    · intro q
      by_cases z : f < 10001
      · exact Int.le_trans (f2 z) (mono a q)
      · omega
  have h2 : loB p shore * p.gr * (d : Int) ≤ v * v * 1000000 ↔ d < b := by
    constructor
    · intro q
      by_cases z : d < b
      · exact z
      · have := mono c (show b ≤ d by omega)
        have := b2 (by omega)
        omega
    · intro q
      obtain ⟨j, rfl⟩ : ∃ j, b = j + 1 := ⟨b - 1, by omega⟩
      have := mono c (show d ≤ j by omega)
      have := b3 j rfl
      omega
  unfold critV
  rw [Bool.and_eq_true, decide_eq_true_eq, decide_eq_true_eq, h1, h2]
  omega
theorem calm_ends {p : Pl} {d0 d1 shore v : Int} (h0 : 0 ≤ d0) (h1 : d0 ≤ d1) (h2 : d1 ≤ 10000) {f b : Nat} (hc : ∀ d : Nat, d ≤ 10000 → (critV p shore v d = true ↔ f ≤ d ∧ d < b)) :
    calmV p d0 d1 shore v = if min d1 ((b : Int) - 1) < max d0 (f : Int) then 1 else if max d0 (f : Int) = d0 ∧ min d1 ((b : Int) - 1) = d1 then 2 else 3 := by
  obtain ⟨k, hk⟩ := Int.eq_ofNat_of_zero_le h0
  obtain ⟨m, hm⟩ := Int.eq_ofNat_of_zero_le (show 0 ≤ d1 - d0 + 1 by omega)
  have ek : d0.toNat = k := by omega
  have em : (d1 - d0 + 1).toNat = m := by omega
  unfold calmV
  rw [ek, em]
  have z := cntB_zero (critV p shore v) k m
  have al := cntB_all (critV p shore v) k m
  have nt : ∀ d : Nat, d ≤ 10000 → (critV p shore v d = false ↔ ¬ (f ≤ d ∧ d < b)) := fun d hd => by
    rw [← hc d hd]
    simp
  by_cases q : min d1 ((b : Int) - 1) < max d0 (f : Int)
  · rw [if_pos q, if_pos (z.2 fun i hi => (nt (k + i) (by omega)).2 (by omega))]
  · rw [if_neg q, if_neg]
    · by_cases q2 : max d0 (f : Int) = d0 ∧ min d1 ((b : Int) - 1) = d1
      · rw [if_pos q2, if_pos (al.2 fun i hi => (hc (k + i) (by omega)).2 (by omega))]
      · rw [if_neg q2, if_neg]
        intro e
        have e2 := al.1 e
        apply q2
        have a0 := (hc (k + 0) (by omega)).1 (e2 0 (by omega))
        have a1 := (hc (k + (m - 1)) (by omega)).1 (e2 (m - 1) (by omega))
        omega
    · intro e
      have e2 := z.1 e
      obtain ⟨i, hi⟩ : ∃ i : Nat, max d0 (f : Int) = (k : Int) + (i : Int) := ⟨(max d0 (f : Int) - k).toNat, by omega⟩
      have := (nt (k + i) (by omega)).1 (e2 i (by omega))
      omega
end Go.Proofs.Ytkkljbbgaogifaa

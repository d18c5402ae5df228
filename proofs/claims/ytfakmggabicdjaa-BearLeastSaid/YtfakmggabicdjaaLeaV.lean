/-
  Shares fall with the distance and the stand, limits grow with the ice; a single load's verdict. For BearLeast and BearPlaces. Speaks of no program.
-/
import Derived.Test.YtfakmggabicdjaaMean
set_option linter.unusedVariables false
set_option linter.unusedSimpArgs false
namespace Go.Proofs.Ytfakmggabicdjaa
open Go.RowKit

theorem Tab.Ok.down {t : Tab} (h : t.Ok) : ∀ (j i : Nat), i ≤ j → j < t.n → t.P j ≤ t.P i
  | 0, i, hi, _ => by obtain rfl : i = 0 := by omega
                      exact Int.le_refl _
  | j + 1, i, hi, hj => by
    by_cases e : i = j + 1
    · subst e; exact Int.le_refl _
    · have h1 := (h.next j hj).2
      have := h.down j i (by omega) (by omega)
      omega
theorem scanP_ge (F P : Nat → Int) (n l q : Int) (h0 : F 0 ≤ n) : ∀ m, 0 < m → (∀ i, i < m → q ≤ P i) → q ≤ scanP F P n l m
  | 0, h, _ => by omega
  | m + 1, _, h => by
    rw [scanP]
    by_cases e : F m ≤ n
    · rw [if_pos e]; exact h m (by omega)
    · rw [if_neg e]
      by_cases z : m = 0
      · subst z; omega
      · exact scanP_ge F P n l q h0 m (by omega) (fun i hi => h i (by omega))
theorem Tab.Ok.val_anti {t : Tab} (h : t.Ok) {a b : Int} (ha : 0 ≤ a) (hab : a ≤ b) : t.val b ≤ t.val a := by
  have h0 := h.f0
  have key : ∀ m, m ≤ t.n → scanP t.F t.P b 0 m ≤ scanP t.F t.P a 0 m := by
    intro m
    induction m with
    | zero => intro _; exact Int.le_refl _
    | succ m ih =>
      intro hm
      rw [scanP, scanP]
      by_cases e1 : t.F m ≤ a
      · rw [if_pos e1, if_pos (by omega)]; exact Int.le_refl _
      · rw [if_neg e1]
        by_cases e2 : t.F m ≤ b
        · rw [if_pos e2]
          by_cases z : m = 0
          · subst z; omega
          · exact scanP_ge t.F t.P a 0 (t.P m) (by omega) m (by omega) (fun i hi => h.down m i (by omega) (by omega))
        · rw [if_neg e2]; exact ih (by omega)
  exact key t.n (Nat.le_refl _)
theorem Tab.Ok.val_zero {t : Tab} (h : t.Ok) : t.val 0 = 1000000 := by
  have h1 := h.n1
  rw [h.val_eq (k := 0) (by omega) (by rw [h.f0]; exact Int.le_refl _) (fun q => by have := (h.next 0 q).1; have := h.f0; omega), h.p0]
theorem Pl.Ok.lim_stand {p : Pl} (hp : p.Ok) (best : Bool) {th a b : Int} (ht : 0 ≤ th) (ha : 0 ≤ a) (hab : a ≤ b) : limV p best th b ≤ limV p best th a := by
  have hs : 0 ≤ endV best p.s0 p.s1 := by have := hp.s0; have := hp.s01; cases best <;> simp [endV] <;> omega
  exact Int.mul_le_mul_of_nonneg_left (hp.C.val_anti ha hab) (Int.mul_nonneg (Int.mul_nonneg hs ht) ht)
theorem Pl.Ok.lim_thick {p : Pl} (hp : p.Ok) (best : Bool) {a b : Int} (st : Int) (ha : 0 ≤ a) (hab : a ≤ b) : limV p best a st ≤ limV p best b st :=
  lim_mono (by have := hp.s0; have := hp.s01; cases best <;> simp [endV] <;> omega) ha (hp.C.val_in st).1 (Int.le_refl _) hab
theorem verd_alone {p : Pl} (hp : p.Ok) {I0 I1 : Nat → Int} {C0 C1 : Nat → Int} {L : Nat → Ld} {x : Ld} (hx : L 0 = x) :
    verdV p I0 I1 0 C0 C1 1 L x = 1 ↔ x.w1 ≤ limV p false (I0 (x.me / 100).toNat) x.st / 1000000000000 := by
  have e1 : burdV p false 1 L x.me = x.w1 * 1000000 := by
    subst hx
    have e : farV (L 0).me (L 0).me = 0 := by simp [farV]
    simp only [burdV, sumV, partL, e, hp.S.val_zero, endV, Bool.not_false, if_true]
    omega
  have e2 : thickV p false I0 I1 0 C0 C1 x.me = I0 (x.me / 100).toNat := by
    simp [thickV, thinV, nearV, anyV, endV]
  have e3 : bearsV p false I0 I1 0 C0 C1 1 L x = decide (x.w1 ≤ limV p false (I0 (x.me / 100).toNat) x.st / 1000000000000) := by
    unfold bearsV
    rw [e1, e2]
    refine decide_eq_decide.2 ?_
    omega
  unfold verdV
  rw [e3]
  by_cases h : x.w1 ≤ limV p false (I0 (x.me / 100).toNat) x.st / 1000000000000
  · simp [h]
  · simp only [h, decide_false, Bool.false_eq_true, if_false, iff_false]
    split <;> omega
end Go.Proofs.Ytfakmggabicdjaa

/-
  What the functions of package bear mean: burdens, limits, verdicts; what truly is lies between the worst and the best. Speaks of no program.
-/
import Derived.Test.YtkkljbbgaogifaaTab
set_option linter.unusedVariables false
set_option linter.unusedSimpArgs false
namespace Go.Proofs.Ytkkljbbgaogifaa
open Go.RowKit

def sumV (f : Nat → Int) : Nat → Int
  | 0 => 0
  | n + 1 => sumV f n + f n
theorem sumV_le {f g : Nat → Int} : ∀ n, (∀ i, i < n → f i ≤ g i) → sumV f n ≤ sumV g n
  | 0, _ => Int.le_refl _
  | n + 1, h => Int.add_le_add (sumV_le n fun i hi => h i (by omega)) (h n (by omega))
theorem sumV_in {f : Nat → Int} {B : Int} : ∀ n, (∀ i, i < n → 0 ≤ f i ∧ f i ≤ B) → 0 ≤ sumV f n ∧ sumV f n ≤ B * n
  | 0, _ => by simp [sumV]
  | n + 1, h => by
    have h1 := sumV_in n fun i hi => h i (by omega)
    have h2 := h n (by omega)
    have e : B * ((n + 1 : Nat) : Int) = B * n + B := by rw [Int.natCast_add, Int.mul_add]; simp
    rw [sumV, e]
    omega
def farV (a b : Int) : Int := max (a - b) (b - a)
def anyV (f : Nat → Bool) : Nat → Bool
  | 0 => false
  | n + 1 => anyV f n || f n
theorem anyV_imp {f g : Nat → Bool} : ∀ n, (∀ i, i < n → f i = true → g i = true) → anyV f n = true → anyV g n = true
  | 0, _, h => h
  | n + 1, h, k => by
    rw [anyV, Bool.or_eq_true] at k ⊢
    rcases k with k | k
    · exact .inl (anyV_imp n (fun i hi => h i (by omega)) k)
    · exact .inr (h n (by omega) k)

def endV (up : Bool) (a b : Int) : Int := if up then b else a
def partL (p : Pl) (L : Nat → Ld) (at' : Int) (i : Nat) : Int := p.S.val (farV at' (L i).me)
def burdV (p : Pl) (best : Bool) (n : Nat) (L : Nat → Ld) (at' : Int) : Int := sumV (fun i => endV (!best) (L i).w0 (L i).w1 * partL p L at' i) n
def limV (p : Pl) (best : Bool) (thick st : Int) : Int := endV best p.s0 p.s1 * thick * thick * p.C.val st
def awayL (c0 c1 at' : Int) : Int := max (max 0 (c0 - at')) (at' - c1)
def awayH (c0 c1 at' : Int) : Int := max (c1 - at') (at' - c0)
def nearV (p : Pl) (best : Bool) (nc : Nat) (C0 C1 : Nat → Int) (at' : Int) : Bool := anyV (fun j => decide (endV best (awayL (C0 j) (C1 j) at') (awayH (C0 j) (C1 j) at') ≤ p.ne)) nc
def thinV (p : Pl) (near : Bool) (h : Int) : Int := if near then h * p.ed / 1000000 else h
def thickV (p : Pl) (best : Bool) (I0 I1 : Nat → Int) (nc : Nat) (C0 C1 : Nat → Int) (at' : Int) : Int := thinV p (nearV p best nc C0 C1 at') (endV best (I0 (at' / 100).toNat) (I1 (at' / 100).toNat))
def bearsV (p : Pl) (best : Bool) (I0 I1 : Nat → Int) (nc : Nat) (C0 C1 : Nat → Int) (n : Nat) (L : Nat → Ld) (x : Ld) : Bool :=
  decide (burdV p best n L x.me * 1000000 ≤ limV p best (thickV p best I0 I1 nc C0 C1 x.me) x.st)
def verdV (p : Pl) (I0 I1 : Nat → Int) (nc : Nat) (C0 C1 : Nat → Int) (n : Nat) (L : Nat → Ld) (x : Ld) : Int :=
  if bearsV p false I0 I1 nc C0 C1 n L x then 1 else if bearsV p true I0 I1 nc C0 C1 n L x then 3 else 2

structure Tr where
  σ : Int
  T : Nat → Int
  c : Nat → Int
  W : Nat → Int
def burdT (p : Pl) (t : Tr) (n : Nat) (L : Nat → Ld) (at' : Int) : Int := sumV (fun i => t.W i * partL p L at' i) n
def nearT (p : Pl) (t : Tr) (nc : Nat) (at' : Int) : Bool := anyV (fun j => decide (farV (t.c j) at' ≤ p.ne)) nc
def thickT (p : Pl) (t : Tr) (nc : Nat) (at' : Int) : Int := thinV p (nearT p t nc at') (t.T (at' / 100).toNat)
def borneT (p : Pl) (t : Tr) (nc n : Nat) (L : Nat → Ld) (x : Ld) : Bool :=
  decide (burdT p t n L x.me * 1000000 ≤ t.σ * thickT p t nc x.me * thickT p t nc x.me * p.C.val x.st)

theorem lim_mono {s s' t t' c : Int} (hs : 0 ≤ s) (ht : 0 ≤ t) (hc : 0 ≤ c) (h1 : s ≤ s') (h2 : t ≤ t') : s * t * t * c ≤ s' * t' * t' * c := by
  have ht' : 0 ≤ t' := Int.le_trans ht h2
  have hs' : 0 ≤ s' := Int.le_trans hs h1
  have a1 : s * t ≤ s' * t' := Int.mul_le_mul h1 h2 ht hs'
  have a2 : s * t * t ≤ s' * t' * t' := Int.mul_le_mul a1 h2 ht (Int.mul_nonneg hs' ht')
  exact Int.mul_le_mul_of_nonneg_right a2 hc
theorem thin_mono {p : Pl} (h0 : 0 ≤ p.ed) (h1 : p.ed ≤ 1000000) {a b : Bool} {x y : Int} (hx : 0 ≤ x) (hxy : x ≤ y) (hab : b = true → a = true) : thinV p a x ≤ thinV p b y := by
  have hm : x * p.ed ≤ y * p.ed := Int.mul_le_mul_of_nonneg_right hxy h0
  have h2 : x * p.ed ≤ x * 1000000 := Int.mul_le_mul_of_nonneg_left h1 hx
  unfold thinV
  cases a <;> cases b <;> simp only [Bool.false_eq_true, if_true, if_false] at hab ⊢
  · exact hxy
  · simp at hab
  · omega
  · omega
theorem thin_in {p : Pl} (h0 : 0 ≤ p.ed) (h1 : p.ed ≤ 1000000) (a : Bool) {x : Int} (hx : 0 ≤ x) : 0 ≤ thinV p a x ∧ thinV p a x ≤ x := by
  have h2 : x * p.ed ≤ x * 1000000 := Int.mul_le_mul_of_nonneg_left h1 hx
  have h3 : 0 ≤ x * p.ed := Int.mul_nonneg hx h0
  unfold thinV
  cases a <;> simp only [Bool.false_eq_true, if_true, if_false] <;> omega

structure Tr.In (t : Tr) (p : Pl) (I0 I1 : Nat → Int) (nc : Nat) (C0 C1 : Nat → Int) (n : Nat) (L : Nat → Ld) (at' : Int) : Prop where
  σ0 : p.s0 ≤ t.σ
  σ1 : t.σ ≤ p.s1
  T0 : I0 (at' / 100).toNat ≤ t.T (at' / 100).toNat
  T1 : t.T (at' / 100).toNat ≤ I1 (at' / 100).toNat
  I0 : 0 ≤ I0 (at' / 100).toNat
  c : ∀ j, j < nc → C0 j ≤ t.c j ∧ t.c j ≤ C1 j
  W : ∀ i, i < n → 0 ≤ (L i).w0 ∧ (L i).w0 ≤ t.W i ∧ t.W i ≤ (L i).w1

theorem part_in {p : Pl} (hp : p.Ok) (L : Nat → Ld) (a : Int) (i : Nat) : 0 ≤ partL p L a i ∧ partL p L a i ≤ 1000000 := hp.S.val_in _

theorem true_worst {p : Pl} (hp : p.Ok) {t : Tr} {I0 I1 : Nat → Int} {nc : Nat} {C0 C1 : Nat → Int} {n : Nat} {L : Nat → Ld} {x : Ld} (h : t.In p I0 I1 nc C0 C1 n L x.me)
    (hb : bearsV p false I0 I1 nc C0 C1 n L x = true) : borneT p t nc n L x = true := by
  unfold bearsV at hb
  unfold borneT
  simp only [decide_eq_true_eq] at hb ⊢
  have h1 : burdT p t n L x.me ≤ burdV p false n L x.me := by
    refine sumV_le n fun i hi => ?_
    exact Int.mul_le_mul_of_nonneg_right (by simpa [endV] using (h.W i hi).2.2) (part_in hp L _ i).1
  have hn : nearT p t nc x.me = true → nearV p false nc C0 C1 x.me = true := anyV_imp nc fun j hj k => by
    have q := h.c j hj
    simp only [decide_eq_true_eq, farV, endV, awayL, Bool.false_eq_true, if_false, Int.max_le] at k ⊢
    omega
  have h2 : thickV p false I0 I1 nc C0 C1 x.me ≤ thickT p t nc x.me := thin_mono hp.ed0 hp.ed1 (by simpa [endV] using h.I0) (by simpa [endV] using h.T0) hn
  have h3 : 0 ≤ thickV p false I0 I1 nc C0 C1 x.me := (thin_in hp.ed0 hp.ed1 _ (by simpa [endV] using h.I0)).1
  have h4 := lim_mono (s := p.s0) (s' := t.σ) (by have := hp.s0; omega) h3 (hp.C.val_in x.st).1 h.σ0 h2
  have e : limV p false (thickV p false I0 I1 nc C0 C1 x.me) x.st = p.s0 * thickV p false I0 I1 nc C0 C1 x.me * thickV p false I0 I1 nc C0 C1 x.me * p.C.val x.st := by simp [limV, endV]
  rw [e] at hb
  omega
theorem true_best {p : Pl} (hp : p.Ok) {t : Tr} {I0 I1 : Nat → Int} {nc : Nat} {C0 C1 : Nat → Int} {n : Nat} {L : Nat → Ld} {x : Ld} (h : t.In p I0 I1 nc C0 C1 n L x.me)
    (hb : borneT p t nc n L x = true) : bearsV p true I0 I1 nc C0 C1 n L x = true := by
  unfold bearsV
  unfold borneT at hb
  simp only [decide_eq_true_eq] at hb ⊢
  have h1 : burdV p true n L x.me ≤ burdT p t n L x.me := by
    refine sumV_le n fun i hi => ?_
    exact Int.mul_le_mul_of_nonneg_right (by simpa [endV] using (h.W i hi).2.1) (part_in hp L _ i).1
  have hT : 0 ≤ t.T (x.me / 100).toNat := Int.le_trans h.I0 h.T0
  have hn : nearV p true nc C0 C1 x.me = true → nearT p t nc x.me = true := anyV_imp nc fun j hj k => by
    have q := h.c j hj
    simp only [decide_eq_true_eq, farV, endV, awayH, if_true, Int.max_le] at k ⊢
    omega
  have h2 : thickT p t nc x.me ≤ thickV p true I0 I1 nc C0 C1 x.me := thin_mono hp.ed0 hp.ed1 hT (by simpa [endV] using h.T1) hn
  have h3 : 0 ≤ thickT p t nc x.me := (thin_in hp.ed0 hp.ed1 _ hT).1
  have h4 := lim_mono (s := t.σ) (s' := p.s1) (by have := hp.s0; have := h.σ0; omega) h3 (hp.C.val_in x.st).1 h.σ1 h2
  have e : limV p true (thickV p true I0 I1 nc C0 C1 x.me) x.st = p.s1 * thickV p true I0 I1 nc C0 C1 x.me * thickV p true I0 I1 nc C0 C1 x.me * p.C.val x.st := by simp [limV, endV]
  rw [e]
  omega

theorem burd_in {p : Pl} (hp : p.Ok) (best : Bool) {n : Nat} (hn : n ≤ 30) {L : Nat → Ld} (hL : ∀ i, i < n → 0 ≤ (L i).w0 ∧ (L i).w0 ≤ (L i).w1 ∧ (L i).w1 ≤ 200000) (a : Int) (k : Nat) (hk : k ≤ n) :
    0 ≤ sumV (fun i => endV (!best) (L i).w0 (L i).w1 * partL p L a i) k ∧ sumV (fun i => endV (!best) (L i).w0 (L i).w1 * partL p L a i) k ≤ 6000000000000 := by
  have h := sumV_in (f := fun i => endV (!best) (L i).w0 (L i).w1 * partL p L a i) (B := 200000000000) k fun i hi => by
    have q := hL i (by omega)
    have r := part_in hp L a i
    have e0 : 0 ≤ endV (!best) (L i).w0 (L i).w1 ∧ endV (!best) (L i).w0 (L i).w1 ≤ 200000 := by cases best <;> simp [endV] <;> omega
    exact ⟨Int.mul_nonneg e0.1 r.1, by have := Int.mul_le_mul e0.2 r.2 r.1 (by omega : (0:Int) ≤ 200000); omega⟩
  omega
theorem term_in {p : Pl} (hp : p.Ok) {w0 w1 : Int} (best : Bool) (h : 0 ≤ w0 ∧ w0 ≤ w1 ∧ w1 ≤ 200000) (n : Int) : 0 ≤ endV (!best) w0 w1 * p.S.val n ∧ endV (!best) w0 w1 * p.S.val n ≤ 200000000000 := by
  have r := hp.S.val_in n
  have e0 : 0 ≤ endV (!best) w0 w1 ∧ endV (!best) w0 w1 ≤ 200000 := by cases best <;> simp [endV] <;> omega
  exact ⟨Int.mul_nonneg e0.1 r.1, by have := Int.mul_le_mul e0.2 r.2 r.1 (by omega : (0:Int) ≤ 200000); omega⟩
theorem lim_in {s t c : Int} (hs : 0 ≤ s ∧ s ≤ 100000) (ht : 0 ≤ t ∧ t ≤ 5000) (hc : 0 ≤ c ∧ c ≤ 1000000) :
    (0 ≤ s * t ∧ s * t ≤ 500000000) ∧ (0 ≤ s * t * t ∧ s * t * t ≤ 2500000000000) ∧ 0 ≤ s * t * t * c ∧ s * t * t * c ≤ 2500000000000000000 := by
  have a0 := Int.mul_nonneg hs.1 ht.1
  have a1 := Int.mul_le_mul hs.2 ht.2 ht.1 (by omega : (0:Int) ≤ 100000)
  have b0 := Int.mul_nonneg a0 ht.1
  have b1 := Int.mul_le_mul (show s * t ≤ 500000000 by omega) ht.2 ht.1 (by omega : (0:Int) ≤ 500000000)
  have c0 := Int.mul_nonneg b0 hc.1
  have c1 := Int.mul_le_mul (show s * t * t ≤ 2500000000000 by omega) hc.2 hc.1 (by omega : (0:Int) ≤ 2500000000000)
  omega
end Go.Proofs.Ytkkljbbgaogifaa

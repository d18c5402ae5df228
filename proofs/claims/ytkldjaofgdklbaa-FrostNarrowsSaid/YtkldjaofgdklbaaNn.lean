/-
  What is known stays in its order; days within days: what is known lies within, behind all days; true ice stays within what is known, on any day. Speaks of no program.
-/
import Derived.Test.YtkldjaofgdklbaaMono
import Derived.Test.YtkldjaofgdklbaaBig
set_option linter.unusedVariables false
set_option linter.unusedSimpArgs false
namespace Go.Proofs.Ytkldjaofgdklbaa
open Go.RowKit

theorem rt_le_rf (n : Int) : rtI n ≤ rfI n := by
  unfold rfI
  split <;> omega
theorem grown_rt_rf (gr la ice above water cold : Int) : grownP rtI gr la ice above water cold ≤ grownP rfI gr la ice above water cold := by
  unfold grownP
  split
  · exact Int.le_refl _
  · have := rt_le_rf ((ice + (above + min water (cold / la))) * (ice + (above + min water (cold / la))) + gr * (cold - min water (cold / la) * la))
    omega
theorem lastP_le (D P Q : Nat → Int) (s : Int) : ∀ n, P 0 ≤ Q 0 → (∀ i, i < n → P i ≤ Q i) → lastP D P s n ≤ lastP D Q s n
  | 0, h0, _ => h0
  | k + 1, h0, h => by
    have ih := lastP_le D P Q s k h0 (fun i hi => h i (by omega))
    have g := h k (by omega)
    show (if D k ≤ s then P k else lastP D P s k) ≤ (if D k ≤ s then Q k else lastP D Q s k)
    split <;> omega
theorem got_LH {c c' p p' : Int} (c0 : 0 ≤ c) (hc : c ≤ c') (p0 : 0 ≤ p) (hp : p ≤ p') : gotL c p ≤ gotH c' p' := by
  have : c * p ≤ c' * p' := Int.mul_le_mul hc hp p0 (by omega)
  unfold gotL gotH
  omega
theorem cold_nn {l : Lw} (hl : l.Kit) {x : Ic} (hx : x.Nn) {c0 c1 : Int} (a1 : 0 ≤ c0) (a2 : c0 ≤ c1) (a4 : c1 ≤ 1000) : (coldI l x c0 c1).Nn := by
  have hP0 : ∀ i, i + 1 < l.n → l.P0 (i + 1) ≤ l.P0 i := fun i hi => (hl.next i hi).2.1
  have n1 := hl.ok.n1
  have p0 := lastP_in l.D l.P0 x.s1 l.n n1 hl.ok.p0
  have p1 := lastP_in l.D l.P1 x.s0 l.n n1 hl.ok.p1
  have m0 := lastP_mono l.D l.P0 hx.s l.n hP0
  have m1 := lastP_le l.D l.P0 l.P1 x.s0 l.n (hl.each 0 (by omega)).2.2.2.1 (fun i hi => (hl.each i hi).2.2.2.1)
  have G := got_LH a1 a2 p0.1 (Int.le_trans m0 m1)
  have i1 := got_in c0 _ a1 (by omega) p0.1 p0.2
  have i2 := got_in c1 _ (by omega) (by omega) p1.1 p1.2
  unfold coldI
  generalize gotL c0 (lastP l.D l.P0 x.s1 l.n) = f0 at G i1 ⊢
  generalize gotH c1 (lastP l.D l.P1 x.s0 l.n) = f1 at G i2 ⊢
  have hla := hl.ok.a0
  obtain ⟨x1, x2, x3, x4, x5, x6, x7, x8⟩ := hx
  have e0 : f0 / l.la ≤ f1 / l.la := Int.ediv_le_ediv (by omega) G
  have e1 : 0 ≤ f0 / l.la := Int.ediv_nonneg (by omega) (by omega)
  have A := grown_mono rfI (.inr rfl) l.gr l.la x.b0 x.w1 x.q1 f0 x.b1 x.w0 x.q0 f1 hl.ok.g0 hl.ok.g1 hla x1 x2 x3 x4 x5 x6 i1.1 G i2.2.2.2
  have B := grown_rt_rf l.gr l.la x.b0 x.w1 x.q1 f0
  have C := (grown_bd rtI (.inl rfl) l.gr l.la x.b0 x.w1 x.q1 f0 hl.ok.g0 hl.ok.g1 hla x1 (by omega) (by omega) i1.1 i1.2.1).1
  constructor <;> dsimp only <;> omega
theorem melt_nn {x : Ic} (hx : x.Nn) {r0 r1 : Int} (h : r0 ≤ r1) (h0 : 0 ≤ r0) : (meltI x r0 r1).Nn := by
  obtain ⟨x1, x2, x3, x4, x5, x6, x7, x8⟩ := hx
  unfold meltI mD
  constructor <;> dsimp only <;> omega
theorem warm_nn {l : Lw} (hl : l.Kit) {x : Ic} (hx : x.Nn) {f t : Int} (a0 : 0 ≤ f) (a1 : f ≤ t) : (warmI l x f t).Nn :=
  melt_nn hx (got_LH a0 a1 hl.ok.m0 hl.ok.m1) (warm_got _ _ a0 hl.ok.m0).1
theorem join_nn {x y : Ic} (hx : x.Nn) (hy : y.Nn) : (joinI x y).Nn := by
  obtain ⟨x1, x2, x3, x4, x5, x6, x7, x8⟩ := hx
  obtain ⟨y1, y2, y3, y4, y5, y6, y7, y8⟩ := hy
  unfold joinI
  constructor <;> dsimp only <;> omega
theorem step_nn {l : Lw} (hl : l.Kit) {x : Ic} (hx : x.Nn) {d : Dy} (hd : d.Ok) : (stepI l x d).Nn := by
  have o := open_nn hl hx hd
  have c1 := hd.c1
  have c2 := hd.c2
  unfold stepI
  generalize openI l x d = p at o ⊢
  split
  · exact cold_nn hl o (by omega) c1 c2
  · split
    · exact warm_nn hl o (by omega) (by omega)
    · exact join_nn (cold_nn hl o (by omega) (by omega) c2) (warm_nn hl o (by omega) (by omega))
theorem Ic.Val.nn {x : Ic} (h : x.Val) : x.Nn := by
  obtain ⟨h1, h2, h3, h4⟩ := h
  exact ⟨h1.1, h1.2.1, h2.1, h2.2.1, h3.1, h3.2.1, h4.1, h4.2.1⟩
theorem iceAt_nn {l : Lw} (hl : l.Kit) {x : Ic} (hx : x.Nn) {d : Nat → Dy} (n : Nat) (hd : ∀ i, i < n → (d i).Ok) : ∀ k, k ≤ n → (iceAt l d x k).Nn
  | 0, _ => hx
  | k + 1, h => step_nn hl (iceAt_nn hl hx n hd k (by omega)) (hd k (by omega))
theorem iceAt_sub {l : Lw} (hl : l.Kit) {x y : Ic} (hx : x.Nn) (hy : y.Nn) (h : y.Sub x) {d e : Nat → Dy} (n : Nat) (hd : ∀ i, i < n → (d i).Ok) (he : ∀ i, i < n → (e i).Ok) (hs : ∀ i, i < n → (e i).Sub (d i)) : ∀ k, k ≤ n → (iceAt l e y k).Sub (iceAt l d x k)
  | 0, _ => h
  | k + 1, hk => step_sub hl (iceAt_nn hl hy n he k (by omega)) (iceAt_nn hl hx n hd k (by omega)) (iceAt_sub hl hx hy h n hd he hs k (by omega)) (he k (by omega)) (hd k (by omega)) (hs k (by omega))

theorem rdyS_sub {need h0 : Int} (k0 : 0 ≤ h0) {x y : Ic} (hx : x.Nn) (hy : y.Nn) (h : y.Sub x) (hs : rdyS need h0 x = true) : rdyS need h0 y = true := by
  have g := gotL_mono hx.w0 h.w0 k0 (Int.le_refl h0)
  have q1 := h.q1
  have b0 := h.b0
  have y0 := hy.q0
  have y1 := hy.q
  unfold rdyS soundI bearL at hs ⊢
  simp only [Bool.and_eq_true, decide_eq_true_eq] at hs ⊢
  obtain ⟨s1, s2⟩ := hs
  have e : x.q1 = 0 := by
    by_cases e : x.q1 = 0
    · exact e
    · rw [if_neg e] at s1
      split at s1 <;> omega
  refine ⟨by rw [if_pos (by omega)], by omega⟩
theorem rdyP_sub {need h1 : Int} (k0 : 0 ≤ h1) {x y : Ic} (hx : x.Nn) (hy : y.Nn) (h : y.Sub x) (hs : rdyP need h1 y = true) : rdyP need h1 x = true := by
  have g := gotH_mono (Int.le_trans hy.w0 hy.w) h.w1 k0 (Int.le_refl h1)
  have q1 := h.q1
  have q0 := h.q0
  have b1 := h.b1
  have x0 := hx.q0
  have x1 := hx.q
  have y0 := hy.q0
  have y1 := hy.q
  unfold rdyP soundI bearH at hs ⊢
  simp only [Bool.and_eq_true, Bool.not_eq_true', decide_eq_true_eq, decide_eq_false_iff_not] at hs ⊢
  obtain ⟨s1, s2⟩ := hs
  refine ⟨?_, by omega⟩
  intro e
  apply s1
  by_cases z : x.q1 = 0
  · rw [if_pos z] at e
    omega
  · rw [if_neg z] at e
    split at e
    · rename_i p
      rw [if_neg (by omega), if_pos (by omega)]
    · omega

theorem firstI_nn (g : Nat → Bool) : ∀ m k, firstI g k m = 0 ∨ (0 < firstI g k m)
  | 0, _ => .inl rfl
  | m + 1, k => by
    unfold firstI
    cases g k with
    | true => right; simp only [cond_true]; omega
    | false => exact firstI_nn g m (k + 1)
theorem firstI_ge (g : Nat → Bool) : ∀ m k, firstI g k m = 0 ∨ ((k : Int) + 1 ≤ firstI g k m)
  | 0, _ => .inl rfl
  | m + 1, k => by
    unfold firstI
    cases g k with
    | true => right; simp only [cond_true]; omega
    | false =>
      rcases firstI_ge g m (k + 1) with h | h
      · exact .inl h
      · right
        simp only [cond_false]
        omega
theorem firstI_imp (g h : Nat → Bool) : ∀ m k, (∀ i, k ≤ i → i < k + m → g i = true → h i = true) → firstI g k m = 0 ∨ (0 < firstI h k m ∧ firstI h k m ≤ firstI g k m)
  | 0, _, _ => .inl rfl
  | m + 1, k, H => by
    have ih := firstI_imp g h m (k + 1) (fun i h1 h2 => H i (by omega) (by omega))
    have hk := H k (by omega) (by omega)
    have G := firstI_ge g m (k + 1)
    unfold firstI
    cases hg : g k with
    | true =>
      rw [hk hg]
      right
      simp only [cond_true]
      omega
    | false =>
      cases h k with
      | true =>
        simp only [cond_true, cond_false]
        rcases G with G | G
        · exact .inl G
        · right
          omega
      | false => exact ih
theorem TrIn.trans {b w q s : Int} {x y : Ic} (h : TrIn b w q s x) (g : x.Sub y) : TrIn b w q s y := by
  obtain ⟨h1, h2, h3, h4, h5, h6, h7, h8⟩ := h
  obtain ⟨g1, g2, g3, g4, g5, g6, g7, g8⟩ := g
  exact ⟨by omega, by omega, by omega, by omega, by omega, by omega, by omega, by omega⟩
theorem day_one {d : Dy} (hd : d.Ok) {c f : Int} (h1 : d.c0 ≤ c) (h2 : c ≤ d.c1) (h3 : d.f0 ≤ f) (h4 : f ≤ d.f1) : Dy.Ok ⟨c, c, f, f, d.wa, d.cl⟩ ∧ Dy.Sub ⟨c, c, f, f, d.wa, d.cl⟩ d := by
  obtain ⟨a1, a2, a3, a4, a5, a6, a7, a8⟩ := hd
  exact ⟨⟨by simp only; omega, by simp only; omega, by simp only; omega, by simp only; omega, by simp only; omega, by simp only; omega, a7, a8⟩, ⟨h1, h2, h3, h4, rfl, rfl⟩⟩
theorem true_nn {b w q s : Int} {x : Ic} (hx : x.Nn) (h : TrIn b w q s x) : Ic.Nn ⟨b, b, w, w, q, q, s, s⟩ := by
  obtain ⟨x1, x2, x3, x4, x5, x6, x7, x8⟩ := hx
  obtain ⟨h1, h2, h3, h4, h5, h6, h7, h8⟩ := h
  exact ⟨by simp only; omega, Int.le_refl _, by simp only; omega, Int.le_refl _, by simp only; omega, Int.le_refl _, by simp only; omega, Int.le_refl _⟩
theorem true_sub {b w q s : Int} {x : Ic} (h : TrIn b w q s x) : Ic.Sub ⟨b, b, w, w, q, q, s, s⟩ x := by
  obtain ⟨h1, h2, h3, h4, h5, h6, h7, h8⟩ := h
  exact ⟨h1, h2, h3, h4, h5, h6, h7, h8⟩
theorem true_warm {l : Lw} (hl : l.Kit) {x : Ic} (hx : x.Nn) {b w q s : Int} (h : TrIn b w q s x) {d : Dy} (hd : d.Ok) {c f n : Int} (h1 : d.c0 ≤ c) (h2 : c ≤ d.c1) (h3 : d.f0 ≤ f) (h4 : f ≤ d.f1) (hc : c < 0)
    (n0 : gotL (-c) l.m0 ≤ n) (n1 : n ≤ gotH (-c) l.m1) {Q S : Int} (hQ : Q = wetP d.wa q (snowP d.cl s f) l.so) (hS : S = leftP d.wa (snowP d.cl s f)) :
    TrIn (mD b (mD (mD n S) w)) (mD w (mD n S)) Q (mD S n) (stepI l x d) := by
  obtain ⟨d1, d2⟩ := day_one hd h1 h2 h3 h4
  refine TrIn.trans ?_ (step_sub hl (true_nn hx h) hx (true_sub h) d1 hd d2)
  unfold stepI
  rw [if_neg (show ¬ 0 ≤ c by omega), if_pos hc]
  unfold warmI openI
  dsimp only
  rw [← hQ, ← hS]
  generalize gotL (-c) l.m0 = r0 at n0 ⊢
  generalize gotH (-c) l.m1 = r1 at n1 ⊢
  unfold meltI mD
  constructor <;> dsimp only <;> omega
theorem true_cold {l : Lw} (hl : l.Kit) {x : Ic} (hx : x.Nn) {b w q s : Int} (h : TrIn b w q s x) {d : Dy} (hd : d.Ok) {c f n : Int} (h1 : d.c0 ≤ c) (h2 : c ≤ d.c1) (h3 : d.f0 ≤ f) (h4 : f ≤ d.f1) (hc : 0 ≤ c)
    {Q S : Int} (hQ : Q = wetP d.wa q (snowP d.cl s f) l.so) (hS : S = leftP d.wa (snowP d.cl s f)) (n0 : gotL c (lastP l.D l.P0 S l.n) ≤ n) (n1 : n ≤ gotH c (lastP l.D l.P1 S l.n)) (R : Int → Int) (hR : R = rtI ∨ R = rfI) :
    TrIn (grownP R l.gr l.la b w Q n) (w + min Q (n / l.la)) (Q - min Q (n / l.la)) S (stepI l x d) := by
  obtain ⟨d1, d2⟩ := day_one hd h1 h2 h3 h4
  have o := open_nn hl (true_nn hx h) d1
  have c2 := d1.c2
  refine TrIn.trans ?_ (step_sub hl (true_nn hx h) hx (true_sub h) d1 hd d2)
  unfold stepI
  rw [if_pos hc]
  unfold coldI
  dsimp only at c2 ⊢
  unfold openI at o ⊢
  dsimp only at o ⊢
  rw [← hQ, ← hS] at o ⊢
  have p0 := lastP_in l.D l.P0 S l.n hl.ok.n1 hl.ok.p0
  have p1 := lastP_in l.D l.P1 S l.n hl.ok.n1 hl.ok.p1
  have i0 := got_in c _ hc c2 p0.1 p0.2
  have i1 := got_in c _ hc c2 p1.1 p1.2
  generalize gotL c (lastP l.D l.P0 S l.n) = g0 at n0 i0 ⊢
  generalize gotH c (lastP l.D l.P1 S l.n) = g1 at n1 i1 ⊢
  have hla := hl.ok.a0
  obtain ⟨x1, x2, x3, x4, x5, x6, x7, x8⟩ := o
  dsimp only at x1 x2 x3 x4 x5 x6 x7 x8
  have e0 : g0 / l.la ≤ n / l.la := Int.ediv_le_ediv (by omega) n0
  have e1 : n / l.la ≤ g1 / l.la := Int.ediv_le_ediv (by omega) n1
  have A := grown_mono rtI (.inl rfl) l.gr l.la b w Q g0 b w Q n hl.ok.g0 hl.ok.g1 hla x1 (Int.le_refl _) x3 (Int.le_refl _) x5 (Int.le_refl _) i0.1 n0 (by omega)
  have B := grown_mono rfI (.inr rfl) l.gr l.la b w Q n b w Q g1 hl.ok.g0 hl.ok.g1 hla x1 (Int.le_refl _) x3 (Int.le_refl _) x5 (Int.le_refl _) (by omega) n1 i1.2.2.2
  have C := grown_rt_rf l.gr l.la b w Q n
  rcases hR with rfl | rfl
  · constructor <;> dsimp only <;> omega
  · constructor <;> dsimp only <;> omega
end Go.Proofs.Ytkldjaofgdklbaa

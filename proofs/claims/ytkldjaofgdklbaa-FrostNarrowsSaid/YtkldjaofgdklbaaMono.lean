/-
  A day is monotone: from ice and a day within come ice within.
-/
import Derived.Test.YtkldjaofgdklbaaBig
set_option linter.unusedVariables false
set_option linter.unusedSimpArgs false
namespace Go.Proofs.Ytkldjaofgdklbaa
open Go.RowKit

theorem lastP_ge (D P : Nat → Int) (s : Int) : ∀ k, (∀ i, i + 1 ≤ k → P (i + 1) ≤ P i) → P k ≤ lastP D P s (k + 1) ∧ P k ≤ lastP D P s k
  | 0, _ => by
    refine ⟨?_, Int.le_refl _⟩
    unfold lastP
    split
    · exact Int.le_refl _
    · exact Int.le_refl _
  | k + 1, h => by
    have q := lastP_ge D P s k (fun i hi => h i (by omega))
    have p := h k (by omega)
    have e : P (k + 1) ≤ lastP D P s (k + 1) := by omega
    refine ⟨?_, e⟩
    show P (k + 1) ≤ (if D (k + 1) ≤ s then P (k + 1) else lastP D P s (k + 1))
    split
    · exact Int.le_refl _
    · exact e
theorem lastP_mono (D P : Nat → Int) {s s' : Int} (hs : s ≤ s') : ∀ n, (∀ i, i + 1 < n → P (i + 1) ≤ P i) → lastP D P s' n ≤ lastP D P s n
  | 0, _ => Int.le_refl _
  | k + 1, h => by
    have ih := lastP_mono D P hs k (fun i hi => h i (by omega))
    have g := (lastP_ge D P s k (fun i hi => h i (by omega))).2
    show (if D k ≤ s' then P k else lastP D P s' k) ≤ (if D k ≤ s then P k else lastP D P s k)
    split <;> split <;> omega

theorem rtI_lt (n : Int) (h : 0 ≤ n) : n < (rtI n + 1) * (rtI n + 1) := by
  obtain ⟨b, rfl⟩ := Int.eq_ofNat_of_zero_le h
  have := (rt_spec b).2
  have e : rtI ((b : Nat) : Int) = ((rt b : Nat) : Int) := by simp [rtI]
  rw [e]
  exact_mod_cast this
theorem rtI_lt_of {n m : Int} (h0 : 0 ≤ n) (hm : 0 ≤ m) (h : n < (m + 1) * (m + 1)) : rtI n ≤ m := by
  obtain ⟨b, rfl⟩ := Int.eq_ofNat_of_zero_le h0
  obtain ⟨a, rfl⟩ := Int.eq_ofNat_of_zero_le hm
  have h1 : b < (a + 1) * (a + 1) := by exact_mod_cast h
  have := rt_le h1
  have e : rtI ((b : Nat) : Int) = ((rt b : Nat) : Int) := by simp [rtI]
  rw [e]
  omega
theorem rfI_sq (n : Int) (h : 0 ≤ n) : n ≤ rfI n * rfI n := by
  have h1 := rtI_lt n h
  unfold rfI
  split
  · omega
  · omega
theorem rtI_nn (n : Int) : 0 ≤ rtI n := by unfold rtI; omega
theorem rfI_nn (n : Int) : 0 ≤ rfI n := by
  have := rtI_nn n
  unfold rfI
  split <;> omega
theorem rtI_mono {n m : Int} (h0 : 0 ≤ n) (h : n ≤ m) : rtI n ≤ rtI m := rtI_lt_of h0 (rtI_nn m) (Int.lt_of_le_of_lt h (rtI_lt m (by omega)))
theorem rfI_mono {n m : Int} (h0 : 0 ≤ n) (h : n ≤ m) : rfI n ≤ rfI m := rfI_le (rfI_nn m) (Int.le_trans h (rfI_sq m (by omega)))

theorem sq_add (a b : Int) : (a + b) * (a + b) = a * a + 2 * (a * b) + b * b := by
  rw [Int.add_mul, Int.mul_add, Int.mul_add, Int.mul_comm b a]
  omega
theorem root_shift (R : Int → Int) (hR : R = rtI ∨ R = rfI) (t g e : Int) (t0 : 0 ≤ t) (g0 : 0 ≤ g) (e0 : 0 ≤ e) : R ((t + e) * (t + e) + g) ≤ R (t * t + g) + e := by
  have n0 : 0 ≤ t * t + g := by have := Int.mul_nonneg t0 t0; omega
  have n1 : 0 ≤ (t + e) * (t + e) + g := by have := Int.mul_nonneg (show 0 ≤ t + e by omega) (show 0 ≤ t + e by omega); omega
  rcases hR with rfl | rfl
  · have hm := rtI_lt (t * t + g) n0
    have hge : t ≤ rtI (t * t + g) := rtI_ge t0 (by omega)
    generalize rtI (t * t + g) = m at hm hge ⊢
    refine rtI_lt_of n1 (by omega) ?_
    have k := Int.mul_le_mul_of_nonneg_right (show t ≤ m + 1 by omega) e0
    rw [sq_add t e, show m + e + 1 = (m + 1) + e by omega, sq_add (m + 1) e]
    omega
  · have hm := rfI_sq (t * t + g) n0
    have hge : t ≤ rfI (t * t + g) := rfI_ge t0 (by omega)
    generalize rfI (t * t + g) = m at hm hge ⊢
    refine rfI_le (by omega) ?_
    have k := Int.mul_le_mul_of_nonneg_right hge e0
    rw [sq_add t e, sq_add m e]
    omega
theorem R_mono (R : Int → Int) (hR : R = rtI ∨ R = rfI) {n m : Int} (h0 : 0 ≤ n) (h : n ≤ m) : R n ≤ R m := by
  rcases hR with rfl | rfl
  · exact rtI_mono h0 h
  · exact rfI_mono h0 h
theorem grown_mono (R : Int → Int) (hR : R = rtI ∨ R = rfI) (gr la ice above water cold ice' above' water' cold' : Int) (g1 : 0 ≤ gr) (g2 : gr ≤ 10000) (l1 : 1 ≤ la)
    (i0 : 0 ≤ ice) (i1 : ice ≤ ice') (a0 : 0 ≤ above') (a1 : above' ≤ above) (q0 : 0 ≤ water') (q1 : water' ≤ water) (c0 : 0 ≤ cold) (c1 : cold ≤ cold') (c2 : cold' ≤ 1000) :
    grownP R gr la ice above water cold ≤ grownP R gr la ice' above' water' cold' := by
  have lo := (grown_bd R hR gr la ice' above' water' cold' g1 g2 l1 (by omega) a0 q0 (by omega) c2).1
  have dm : cold / la ≤ cold' / la := Int.ediv_le_ediv (by omega) c1
  by_cases h : min water (cold / la) < water
  · rw [show grownP R gr la ice above water cold = ice from if_pos h]
    omega
  · have hz : min water (cold / la) = water := by omega
    have hz' : min water' (cold' / la) = water' := by omega
    have w2 : water * la ≤ cold := by
      have := Int.ediv_mul_le cold (show la ≠ 0 by omega)
      have := Int.mul_le_mul_of_nonneg_right (show water ≤ cold / la by omega) (show 0 ≤ la by omega)
      omega
    have w3 : water' * la ≤ water * la := Int.mul_le_mul_of_nonneg_right q1 (by omega)
    unfold grownP
    rw [hz, hz', if_neg (by omega), if_neg (by omega)]
    have u0 : 0 ≤ gr * (cold - water * la) := Int.mul_nonneg g1 (by omega)
    have u1 : gr * (cold - water * la) ≤ gr * (cold' - water' * la) := Int.mul_le_mul_of_nonneg_left (by omega) g1
    generalize gr * (cold - water * la) = g at u0 u1 ⊢
    generalize gr * (cold' - water' * la) = g' at u1 ⊢
    have s := root_shift R hR (ice + (above' + water')) g ((above + water) - (above' + water')) (by omega) u0 (by omega)
    rw [show ice + (above' + water') + (above + water - (above' + water')) = ice + (above + water) by omega] at s
    have t0 : (ice + (above' + water')) * (ice + (above' + water')) ≤ (ice' + (above' + water')) * (ice' + (above' + water')) := Int.mul_le_mul (by omega) (by omega) (by omega) (by omega)
    have t1 := Int.mul_nonneg (show 0 ≤ ice + (above' + water') by omega) (show 0 ≤ ice + (above' + water') by omega)
    have m := R_mono R hR (n := (ice + (above' + water')) * (ice + (above' + water')) + g) (m := (ice' + (above' + water')) * (ice' + (above' + water')) + g') (by omega) (by omega)
    omega

theorem gotL_mono {c c' p p' : Int} (c0 : 0 ≤ c) (hc : c ≤ c') (p0 : 0 ≤ p) (hp : p ≤ p') : gotL c p ≤ gotL c' p' := by
  have : c * p ≤ c' * p' := Int.mul_le_mul hc hp p0 (by omega)
  unfold gotL
  omega
theorem gotH_mono {c c' p p' : Int} (c0 : 0 ≤ c) (hc : c ≤ c') (p0 : 0 ≤ p) (hp : p ≤ p') : gotH c p ≤ gotH c' p' := by
  have : c * p ≤ c' * p' := Int.mul_le_mul hc hp p0 (by omega)
  unfold gotH
  omega

structure Ic.Nn (x : Ic) : Prop where
  b0 : 0 ≤ x.b0
  b : x.b0 ≤ x.b1
  w0 : 0 ≤ x.w0
  w : x.w0 ≤ x.w1
  q0 : 0 ≤ x.q0
  q : x.q0 ≤ x.q1
  s0 : 0 ≤ x.s0
  s : x.s0 ≤ x.s1
theorem cold_sub {l : Lw} (hl : l.Kit) {x y : Ic} (hx : x.Nn) (hy : y.Nn) (h : x.Sub y) {c0 c1 d0 d1 : Int} (a0 : 0 ≤ d0) (a1 : d0 ≤ c0) (a2 : c0 ≤ c1) (a3 : c1 ≤ d1) (a4 : d1 ≤ 1000) : (coldI l x c0 c1).Sub (coldI l y d0 d1) := by
  have hP0 : ∀ i, i + 1 < l.n → l.P0 (i + 1) ≤ l.P0 i := fun i hi => (hl.next i hi).2.1
  have hP1 : ∀ i, i + 1 < l.n → l.P1 (i + 1) ≤ l.P1 i := fun i hi => (hl.next i hi).2.2
  have px0 := lastP_in l.D l.P0 x.s1 l.n hl.ok.n1 hl.ok.p0
  have py0 := lastP_in l.D l.P0 y.s1 l.n hl.ok.n1 hl.ok.p0
  have px1 := lastP_in l.D l.P1 x.s0 l.n hl.ok.n1 hl.ok.p1
  have py1 := lastP_in l.D l.P1 y.s0 l.n hl.ok.n1 hl.ok.p1
  have m0 := lastP_mono l.D l.P0 h.s1 l.n hP0
  have m1 := lastP_mono l.D l.P1 h.s0 l.n hP1
  have G0 := gotL_mono a0 a1 py0.1 m0
  have G1 := gotH_mono (by omega) a3 px1.1 m1
  have i0 := got_in d0 _ a0 (by omega) py0.1 py0.2
  have i1 := got_in c0 _ (by omega) (by omega) px0.1 px0.2
  have i2 := got_in c1 _ (by omega) (by omega) px1.1 px1.2
  have i3 := got_in d1 _ (by omega) a4 py1.1 py1.2
  unfold coldI
  generalize gotL d0 (lastP l.D l.P0 y.s1 l.n) = g0 at G0 i0 ⊢
  generalize gotL c0 (lastP l.D l.P0 x.s1 l.n) = f0 at G0 i1 ⊢
  generalize gotH c1 (lastP l.D l.P1 x.s0 l.n) = f1 at G1 i2 ⊢
  generalize gotH d1 (lastP l.D l.P1 y.s0 l.n) = g1 at G1 i3 ⊢
  have hla := hl.ok.a0
  obtain ⟨x1, x2, x3, x4, x5, x6, x7, x8⟩ := hx
  obtain ⟨y1, y2, y3, y4, y5, y6, y7, y8⟩ := hy
  obtain ⟨s1, s2, s3, s4, s5, s6, s7, s8⟩ := h
  have e0 : g0 / l.la ≤ f0 / l.la := Int.ediv_le_ediv (by omega) G0
  have e1 : f1 / l.la ≤ g1 / l.la := Int.ediv_le_ediv (by omega) G1
  have A := grown_mono rtI (.inl rfl) l.gr l.la y.b0 y.w1 y.q1 g0 x.b0 x.w1 x.q1 f0 hl.ok.g0 hl.ok.g1 hla y1 s1 (by omega) s4 (by omega) s6 i0.1 G0 i1.2.1
  have B := grown_mono rfI (.inr rfl) l.gr l.la x.b1 x.w0 x.q0 f1 y.b1 y.w0 y.q0 g1 hl.ok.g0 hl.ok.g1 hla (by omega) s2 y3 s3 y5 s5 i2.2.2.1 G1 i3.2.2.2
  constructor <;> dsimp only <;> omega
theorem melt_sub {x y : Ic} (h : x.Sub y) {r0 r1 u0 u1 : Int} (a0 : u0 ≤ r0) (a1 : r1 ≤ u1) : (meltI x r0 r1).Sub (meltI y u0 u1) := by
  obtain ⟨s1, s2, s3, s4, s5, s6, s7, s8⟩ := h
  unfold meltI mD
  constructor <;> dsimp only <;> omega
theorem warm_sub {l : Lw} (hl : l.Kit) {x y : Ic} (h : x.Sub y) {f t p q : Int} (a0 : 0 ≤ p) (a1 : p ≤ f) (a2 : 0 ≤ t) (a3 : t ≤ q) : (warmI l x f t).Sub (warmI l y p q) :=
  melt_sub h (gotL_mono a0 a1 hl.ok.m0 (Int.le_refl _)) (gotH_mono a2 a3 (by have := hl.ok.m0; have := hl.ok.m1; omega) (Int.le_refl _))
theorem Ic.Sub.join1 {x y z : Ic} (h : x.Sub y) : x.Sub (joinI y z) := by
  obtain ⟨s1, s2, s3, s4, s5, s6, s7, s8⟩ := h
  unfold joinI
  constructor <;> dsimp only <;> omega
theorem Ic.Sub.join2 {x y z : Ic} (h : x.Sub z) : x.Sub (joinI y z) := by
  obtain ⟨s1, s2, s3, s4, s5, s6, s7, s8⟩ := h
  unfold joinI
  constructor <;> dsimp only <;> omega
theorem join_sub {x y z : Ic} (h : x.Sub z) (k : y.Sub z) : (joinI x y).Sub z := by
  obtain ⟨s1, s2, s3, s4, s5, s6, s7, s8⟩ := h
  obtain ⟨t1, t2, t3, t4, t5, t6, t7, t8⟩ := k
  unfold joinI
  constructor <;> dsimp only <;> omega
structure Dy.Sub (d e : Dy) : Prop where
  c0 : e.c0 ≤ d.c0
  c1 : d.c1 ≤ e.c1
  f0 : e.f0 ≤ d.f0
  f1 : d.f1 ≤ e.f1
  wa : d.wa = e.wa
  cl : d.cl = e.cl
theorem soak_mono {s t so : Int} (h0 : 0 ≤ s) (h : s ≤ t) (o0 : 0 ≤ so) : soakP s so ≤ soakP t so := by
  have : s * so ≤ t * so := Int.mul_le_mul_of_nonneg_right h o0
  unfold soakP
  omega
theorem open_nn {l : Lw} (hl : l.Kit) {x : Ic} (hx : x.Nn) {d : Dy} (hd : d.Ok) : (openI l x d).Nn := by
  obtain ⟨x1, x2, x3, x4, x5, x6, x7, x8⟩ := hx
  have f0 := hd.f0
  have f1 := hd.f1
  have S0 : 0 ≤ snowP d.cl x.s0 d.f0 := by unfold snowP; split <;> omega
  have S1 : snowP d.cl x.s0 d.f0 ≤ snowP d.cl x.s1 d.f1 := by unfold snowP; split <;> omega
  have K0 := soak_le (snowP d.cl x.s0 d.f0) l.so S0 hl.ok.o0 hl.ok.o1
  have K1 := soak_mono S0 S1 hl.ok.o0
  have w0 := hd.w0
  unfold openI wetP leftP
  constructor <;> dsimp only <;> (try split) <;> omega
theorem open_sub {l : Lw} (hl : l.Kit) {x y : Ic} (hx : x.Nn) (hy : y.Nn) (h : x.Sub y) {d e : Dy} (hd : d.Ok) (he : e.Ok) (hs : d.Sub e) : (openI l x d).Sub (openI l y e) := by
  obtain ⟨s1, s2, s3, s4, s5, s6, s7, s8⟩ := h
  obtain ⟨x1, x2, x3, x4, x5, x6, x7, x8⟩ := hx
  obtain ⟨y1, y2, y3, y4, y5, y6, y7, y8⟩ := hy
  have f0 := hs.f0
  have f1 := hs.f1
  have g0 := hd.f0
  have g1 := he.f0
  have g2 := hd.f1
  have hw := hs.wa
  have A0 : snowP e.cl y.s0 e.f0 ≤ snowP d.cl x.s0 d.f0 := by rw [hs.cl]; unfold snowP; split <;> omega
  have A1 : snowP d.cl x.s1 d.f1 ≤ snowP e.cl y.s1 e.f1 := by rw [hs.cl]; unfold snowP; split <;> omega
  have N0 : 0 ≤ snowP e.cl y.s0 e.f0 := by unfold snowP; split <;> omega
  have N1 : 0 ≤ snowP d.cl x.s1 d.f1 := by unfold snowP; split <;> omega
  have K0 := soak_mono N0 A0 hl.ok.o0
  have K1 := soak_mono N1 A1 hl.ok.o0
  unfold openI wetP leftP
  rw [hw]
  constructor <;> dsimp only <;> (try split) <;> omega
theorem step_sub {l : Lw} (hl : l.Kit) {x y : Ic} (hx : x.Nn) (hy : y.Nn) (h : x.Sub y) {d e : Dy} (hd : d.Ok) (he : e.Ok) (hs : d.Sub e) : (stepI l x d).Sub (stepI l y e) := by
  have o := open_sub hl hx hy h hd he hs
  have ox := open_nn hl hx hd
  have oy := open_nn hl hy he
  have c0 := hs.c0
  have c1 := hs.c1
  have k0 := he.c0
  have k1 := hd.c1
  have k2 := he.c2
  unfold stepI
  generalize openI l x d = p at o ox ⊢
  generalize openI l y e = q at o oy ⊢
  by_cases h0 : 0 ≤ d.c0
  · rw [if_pos h0]
    by_cases h1 : 0 ≤ e.c0
    · rw [if_pos h1]
      exact cold_sub hl ox oy o h1 c0 k1 c1 k2
    · rw [if_neg h1, if_neg (by omega)]
      exact (cold_sub hl ox oy o (by omega) h0 k1 c1 k2).join1
  · rw [if_neg h0, if_neg (show ¬ 0 ≤ e.c0 by omega)]
    by_cases h1 : d.c1 < 0
    · rw [if_pos h1]
      by_cases h2 : e.c1 < 0
      · rw [if_pos h2]
        exact warm_sub hl o (by omega) (by omega) (by omega) (by omega)
      · rw [if_neg h2]
        exact (warm_sub hl o (by omega) (by omega) (by omega) (by omega)).join2
    · rw [if_neg h1, if_neg (show ¬ e.c1 < 0 by omega)]
      exact join_sub (cold_sub hl ox oy o (by omega) (by omega) (by omega) c1 k2).join1 (warm_sub hl o (by omega) (by omega) (by omega) (by omega)).join2
end Go.Proofs.Ytkldjaofgdklbaa

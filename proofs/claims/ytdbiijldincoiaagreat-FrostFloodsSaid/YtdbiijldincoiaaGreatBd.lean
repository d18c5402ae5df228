/-
  What is known after days stays small; the checks of what the kit makes; frost.Run there.
-/
import Derived.Test.YtdbiijldincoiaaGreatDaysOf
import Derived.Test.YtdbiijldincoiaaGreatStep2
import Derived.Test.YtdbiijldincoiaaGreatVal0
import Derived.Test.YtdbiijldincoiaaGreatReady
set_option linter.unusedVariables false
set_option linter.unusedSimpArgs false
namespace Go.Proofs.YtdbiijldincoiaaGreat
open Go.RowKit

theorem rtI_ge {t n : Int} (h0 : 0 ≤ t) (h : t * t ≤ n) : t ≤ rtI n := by
  obtain ⟨a, rfl⟩ := Int.eq_ofNat_of_zero_le h0
  have hn : 0 ≤ n := Int.le_trans (Int.mul_nonneg h0 h0) h
  obtain ⟨b, rfl⟩ := Int.eq_ofNat_of_zero_le hn
  have : a * a ≤ b := by exact_mod_cast h
  have := le_rt this
  unfold rtI
  simp
  omega
theorem rfI_ge {t n : Int} (h0 : 0 ≤ t) (h : t * t ≤ n) : t ≤ rfI n := by
  have := rtI_ge h0 h
  unfold rfI
  split <;> omega
theorem rtI_le {m n : Int} (h0 : 0 ≤ m) (h : n ≤ m * m) : rtI n ≤ m := by
  obtain ⟨a, rfl⟩ := Int.eq_ofNat_of_zero_le h0
  by_cases hn : 0 ≤ n
  · obtain ⟨b, rfl⟩ := Int.eq_ofNat_of_zero_le hn
    have h1 : b ≤ a * a := by exact_mod_cast h
    have h2 : a * a < (a + 1) * (a + 1) := Nat.mul_self_lt_mul_self (by omega)
    have := rt_le (n := b) (r := a) (by omega)
    unfold rtI
    simp
    omega
  · unfold rtI
    rw [show n.toNat = 0 by omega]
    simp [rt]
theorem rfI_le {m n : Int} (h0 : 0 ≤ m) (h : n ≤ m * m) : rfI n ≤ m := by
  have h1 := rtI_le h0 h
  unfold rfI
  split
  · rename_i h2
    by_cases e : rtI n = m
    · rw [e] at h2
      omega
    · omega
  · exact h1

theorem grown_bd (R : Int → Int) (hR : R = rtI ∨ R = rfI) (gr la ice above water cold : Int) (g1 : 0 ≤ gr) (g2 : gr ≤ 10000) (l1 : 1 ≤ la) (i1 : 0 ≤ ice) (a1 : 0 ≤ above) (q1 : 0 ≤ water) (k1 : 0 ≤ cold) (k2 : cold ≤ 1000) :
    ice ≤ grownP R gr la ice above water cold ∧ grownP R gr la ice above water cold ≤ ice + 3163 := by
  have hd0 : 0 ≤ cold / la := Int.ediv_nonneg k1 (by omega)
  have hd2 : cold / la * la ≤ cold := Int.ediv_mul_le cold (by omega)
  unfold grownP
  generalize hz : min water (cold / la) = z
  have z0 : 0 ≤ z := by omega
  have z1 : z ≤ cold / la := by omega
  have z2 : z * la ≤ cold := Int.le_trans (Int.mul_le_mul_of_nonneg_right z1 (by omega)) hd2
  have z3 : 0 ≤ z * la := Int.mul_nonneg z0 (by omega)
  split
  · omega
  · have u0 : 0 ≤ gr * (cold - z * la) := Int.mul_nonneg g1 (by omega)
    have u1 : gr * (cold - z * la) ≤ 10000 * 1000 := Int.mul_le_mul g2 (by omega) (by omega) (by omega)
    generalize gr * (cold - z * la) = g at u0 u1
    generalize ht : ice + (above + z) = t
    have t0 : 0 ≤ t := by omega
    have e : (t + 3163) * (t + 3163) = t * t + 6326 * t + 10004569 := by
      rw [Int.add_mul, Int.mul_add, Int.mul_add]
      omega
    have lo1 : t * t ≤ t * t + g := by omega
    have hi1 : t * t + g ≤ (t + 3163) * (t + 3163) := by rw [e]; omega
    have lo2 : t ≤ R (t * t + g) := by
      rcases hR with rfl | rfl
      · exact rtI_ge t0 lo1
      · exact rfI_ge t0 lo1
    have hi2 : R (t * t + g) ≤ t + 3163 := by
      rcases hR with rfl | rfl
      · exact rtI_le (by omega) hi1
      · exact rfI_le (by omega) hi1
    omega

structure Ic.Bd (x : Ic) (k : Int) : Prop where
  b0 : 0 ≤ x.b0 ∧ x.b0 ≤ 5000 + 3163 * k
  b1 : 0 ≤ x.b1 ∧ x.b1 ≤ 5000 + 3163 * k
  w0 : 0 ≤ x.w0 ∧ x.w0 ≤ 5000 + 1001 * k
  w1 : 0 ≤ x.w1 ∧ x.w1 ≤ 5000 + 1001 * k
  q0 : 0 ≤ x.q0 ∧ x.q0 ≤ 5000 + 406000 * k
  q1 : 0 ≤ x.q1 ∧ x.q1 ≤ 5000 + 406000 * k
  s0 : 0 ≤ x.s0 ∧ x.s0 ≤ 5000 + 1000 * k
  s1 : 0 ≤ x.s1 ∧ x.s1 ≤ 5000 + 1000 * k
theorem Ic.Val.bd {x : Ic} (h : x.Val) : x.Bd 0 := by
  obtain ⟨h1, h2, h3, h4⟩ := h
  exact ⟨by omega, by omega, by omega, by omega, by omega, by omega, by omega, by omega⟩
theorem Ic.Bd.in {x : Ic} {k : Int} (h : x.Bd k) (h0 : 0 ≤ k) (hk : k ≤ 400) : x.In 400000000 := by
  obtain ⟨h1, h2, h3, h4, h5, h6, h7, h8⟩ := h
  constructor <;> omega
theorem soak_le (s so : Int) (h0 : 0 ≤ s) (o0 : 0 ≤ so) (o1 : so ≤ 1000000) : 0 ≤ soakP s so ∧ soakP s so ≤ s := by
  have h1 : 0 ≤ s * so := Int.mul_nonneg h0 o0
  have h2 : s * so ≤ s * 1000000 := Int.mul_le_mul_of_nonneg_left o1 h0
  unfold soakP
  omega
theorem open_bd {l : Lw} {x : Ic} {d : Dy} {k : Int} (hl : l.Ok) (hx : x.Bd k) (hd : d.Ok) (h0 : 0 ≤ k) (hk : k < 400) :
    (openI l x d).b0 = x.b0 ∧ (openI l x d).b1 = x.b1 ∧ (openI l x d).w0 = x.w0 ∧ (openI l x d).w1 = x.w1 ∧
    (0 ≤ (openI l x d).q0 ∧ (openI l x d).q0 ≤ 5000 + 406000 * (k + 1)) ∧ (0 ≤ (openI l x d).q1 ∧ (openI l x d).q1 ≤ 5000 + 406000 * (k + 1)) ∧
    (0 ≤ (openI l x d).s0 ∧ (openI l x d).s0 ≤ 5000 + 1000 * (k + 1)) ∧ (0 ≤ (openI l x d).s1 ∧ (openI l x d).s1 ≤ 5000 + 1000 * (k + 1)) := by
  obtain ⟨_, _, _, _, a5, a6, a7, a8⟩ := hx
  have hc := hd.f0
  have hc1 := hd.f1
  have hc2 := hd.f2
  have hw0 := hd.w0
  have hw1 := hd.w1
  have S0 : 0 ≤ snowP d.cl x.s0 d.f0 ∧ snowP d.cl x.s0 d.f0 ≤ 5000 + 1000 * (k + 1) := by unfold snowP; split <;> omega
  have S1 : 0 ≤ snowP d.cl x.s1 d.f1 ∧ snowP d.cl x.s1 d.f1 ≤ 5000 + 1000 * (k + 1) := by unfold snowP; split <;> omega
  have K0 := soak_le (snowP d.cl x.s0 d.f0) l.so S0.1 hl.o0 hl.o1
  have K1 := soak_le (snowP d.cl x.s1 d.f1) l.so S1.1 hl.o0 hl.o1
  refine ⟨rfl, rfl, rfl, rfl, ?_, ?_, ?_, ?_⟩ <;> unfold openI wetP leftP <;> dsimp only <;> split <;> omega
theorem lastP_in (D P : Nat → Int) (s : Int) (n : Nat) (h1 : 1 ≤ n) (h : ∀ i, i < n → 0 ≤ P i ∧ P i ≤ 1000000) : 0 ≤ lastP D P s n ∧ lastP D P s n ≤ 1000000 := lastP_bd D P s n h1 h n (Nat.le_refl _)
theorem got_in (c p : Int) (c1 : 0 ≤ c) (c2 : c ≤ 1000) (p1 : 0 ≤ p) (p2 : p ≤ 1000000) : 0 ≤ gotL c p ∧ gotL c p ≤ 1000 ∧ 0 ≤ gotH c p ∧ gotH c p ≤ 1000 := by
  have a : 0 ≤ c * p := Int.mul_nonneg c1 p1
  have b : c * p ≤ 1000 * 1000000 := Int.mul_le_mul c2 p2 p1 (by omega)
  unfold gotL gotH
  omega
theorem cold_bd {l : Lw} {x : Ic} {k c0 c1 : Int} (hl : l.Ok) (h0 : 0 ≤ k) (hc0 : 0 ≤ c0) (hc1 : c0 ≤ 1000) (hc2 : 0 ≤ c1) (hc3 : c1 ≤ 1000)
    (b0 : 0 ≤ x.b0 ∧ x.b0 ≤ 5000 + 3163 * k) (b1 : 0 ≤ x.b1 ∧ x.b1 ≤ 5000 + 3163 * k) (w0 : 0 ≤ x.w0 ∧ x.w0 ≤ 5000 + 1001 * k) (w1 : 0 ≤ x.w1 ∧ x.w1 ≤ 5000 + 1001 * k)
    (q0 : 0 ≤ x.q0 ∧ x.q0 ≤ 5000 + 406000 * (k + 1)) (q1 : 0 ≤ x.q1 ∧ x.q1 ≤ 5000 + 406000 * (k + 1)) (s0 : 0 ≤ x.s0 ∧ x.s0 ≤ 5000 + 1000 * (k + 1)) (s1 : 0 ≤ x.s1 ∧ x.s1 ≤ 5000 + 1000 * (k + 1)) : (coldI l x c0 c1).Bd (k + 1) := by
  have p0 := lastP_in l.D l.P0 x.s1 l.n hl.n1 hl.p0
  have p1 := lastP_in l.D l.P1 x.s0 l.n hl.n1 hl.p1
  have G0 := got_in c0 _ hc0 hc1 p0.1 p0.2
  have G1 := got_in c1 _ hc2 hc3 p1.1 p1.2
  unfold coldI
  generalize gotL c0 (lastP l.D l.P0 x.s1 l.n) = g0 at G0
  generalize gotH c1 (lastP l.D l.P1 x.s0 l.n) = g1 at G1
  have A := grown_bd rtI (.inl rfl) l.gr l.la x.b0 x.w1 x.q1 g0 hl.g0 hl.g1 hl.a0 b0.1 w1.1 q1.1 G0.1 G0.2.1
  have B := grown_bd rfI (.inr rfl) l.gr l.la x.b1 x.w0 x.q0 g1 hl.g0 hl.g1 hl.a0 b1.1 w0.1 q0.1 G1.2.2.1 G1.2.2.2
  have d0 : 0 ≤ g0 / l.la := Int.ediv_nonneg G0.1 (by have := hl.a0; omega)
  have d1 : 0 ≤ g1 / l.la := Int.ediv_nonneg G1.2.2.1 (by have := hl.a0; omega)
  have d2 : g0 / l.la ≤ g0 := Int.ediv_le_self _ G0.1
  have d3 : g1 / l.la ≤ g1 := Int.ediv_le_self _ G1.2.2.1
  constructor <;> dsimp only <;> omega
theorem melt_bd {x : Ic} {k r0 r1 : Int} (h0 : 0 ≤ k) (hr0 : 0 ≤ r0) (hr1 : 0 ≤ r1)
    (b0 : 0 ≤ x.b0 ∧ x.b0 ≤ 5000 + 3163 * k) (b1 : 0 ≤ x.b1 ∧ x.b1 ≤ 5000 + 3163 * k) (w0 : 0 ≤ x.w0 ∧ x.w0 ≤ 5000 + 1001 * k) (w1 : 0 ≤ x.w1 ∧ x.w1 ≤ 5000 + 1001 * k)
    (q0 : 0 ≤ x.q0 ∧ x.q0 ≤ 5000 + 406000 * (k + 1)) (q1 : 0 ≤ x.q1 ∧ x.q1 ≤ 5000 + 406000 * (k + 1)) (s0 : 0 ≤ x.s0 ∧ x.s0 ≤ 5000 + 1000 * (k + 1)) (s1 : 0 ≤ x.s1 ∧ x.s1 ≤ 5000 + 1000 * (k + 1)) : (meltI x r0 r1).Bd (k + 1) := by
  unfold meltI mD
  constructor <;> dsimp only <;> omega
theorem warm_got (c p : Int) (c1 : 0 ≤ c) (p1 : 0 ≤ p) : 0 ≤ gotL c p ∧ 0 ≤ gotH c p := by
  have a : 0 ≤ c * p := Int.mul_nonneg c1 p1
  unfold gotL gotH
  omega
theorem step_bd {l : Lw} {x : Ic} {d : Dy} {k : Int} (hl : l.Ok) (hx : x.Bd k) (hd : d.Ok) (h0 : 0 ≤ k) (hk : k < 400) : (stepI l x d).Bd (k + 1) := by
  obtain ⟨o1, o2, o3, o4, o5, o6, o7, o8⟩ := open_bd hl hx hd h0 hk
  obtain ⟨a1, a2, a3, a4, _, _, _, _⟩ := hx
  have c0 := hd.c0
  have c1 := hd.c1
  have c2 := hd.c2
  have l0 := hl.m0
  have l1 := hl.m1
  rw [← o1] at a1
  rw [← o2] at a2
  rw [← o3] at a3
  rw [← o4] at a4
  unfold stepI warmI
  generalize openI l x d = o at a1 a2 a3 a4 o5 o6 o7 o8
  split
  · exact cold_bd hl h0 (by omega) (by omega) (by omega) (by omega) a1 a2 a3 a4 o5 o6 o7 o8
  · split
    · exact melt_bd h0 (warm_got _ _ (by omega) l0).1 (warm_got _ _ (by omega) (by omega)).2 a1 a2 a3 a4 o5 o6 o7 o8
    · have A := cold_bd hl h0 (c0 := 0) (c1 := d.c1) (by omega) (by omega) (by omega) (by omega) a1 a2 a3 a4 o5 o6 o7 o8
      have B := melt_bd (r0 := gotL 1 l.m0) (r1 := gotH (-d.c0) l.m1) h0 (warm_got _ _ (by omega) l0).1 (warm_got _ _ (by omega) (by omega)).2 a1 a2 a3 a4 o5 o6 o7 o8
      obtain ⟨p1, p2, p3, p4, p5, p6, p7, p8⟩ := A
      obtain ⟨r1, r2, r3, r4, r5, r6, r7, r8⟩ := B
      unfold joinI
      constructor <;> dsimp only <;> omega

def iceAt (l : Lw) (d : Nat → Dy) (x : Ic) : Nat → Ic
  | 0 => x
  | k + 1 => stepI l (iceAt l d x k) (d k)
theorem iceAt_bd {l : Lw} {d : Nat → Dy} {x : Ic} {j : Nat} (hl : l.Ok) (hx : x.Bd j) (n : Nat) (hd : ∀ i, i < n → (d i).Ok) : ∀ k, k ≤ n → j + k ≤ 400 → (iceAt l d x k).Bd ((j : Int) + (k : Int))
  | 0, _, _ => by simpa [iceAt] using hx
  | k + 1, h1, h2 => by
    have q := step_bd hl (iceAt_bd hl hx n hd k (by omega) (by omega)) (hd k (by omega)) (by omega) (by omega)
    rw [show (j : Int) + ((k + 1 : Nat) : Int) = (j : Int) + (k : Int) + 1 by omega]
    exact q
theorem iceAt_part (l : Lw) (d : Nat → Dy) (x : Ic) (k : Nat) : ∀ j, iceAt l (fun i => d (k + i)) (iceAt l d x k) j = iceAt l d x (k + j)
  | 0 => rfl
  | j + 1 => by
    show stepI l (iceAt l (fun i => d (k + i)) (iceAt l d x k) j) (d (k + j)) = stepI l (iceAt l d x (k + j)) (d (k + j))
    rw [iceAt_part l d x k j]

theorem firstNZ_zero (x : Nat → Int) : ∀ (m i : Nat), (∀ j, i ≤ j → j < i + m → x j = 0) → firstNZ x i m = 0
  | 0, _, _ => rfl
  | m + 1, i, h => by
    rw [firstNZ, orE, if_pos (h i (Nat.le_refl _) (by omega))]
    exact firstNZ_zero x m (i + 1) (fun j h1 h2 => h j (by omega) (by omega))
theorem eN_zero {n lo hi : Int} (h1 : lo ≤ n) (h2 : n ≤ hi) : eN n lo hi = 0 := if_neg (by omega)
theorem orE_zero {a b : Int} (h1 : a = 0) (h2 : b = 0) : orE a b = 0 := by rw [h1, h2]; rfl
theorem Lw.Kit.e {l : Lw} (h : l.Kit) : eLaw l.gr l.la l.n l.D l.P0 l.P1 l.m0 l.m1 l.so l.h0 l.h1 = 0 := by
  have hn := h.ok.n1
  have h4 := h.n4
  refine orE_zero (eN_zero h.ok.g0 h.ok.g1) (orE_zero (eN_zero h.ok.a0 h.ok.a1) (orE_zero ?_ (orE_zero (eS_zero h.ok.m0 h.ok.m1 h.ok.m2) (orE_zero (eN_zero h.ok.o0 h.ok.o1) (eS_zero h.ok.h0 h.ok.h1 h.ok.h2)))))
  unfold eCs
  rw [if_neg (by omega), if_neg (by omega)]
  refine firstNZ_zero _ _ _ (fun j _ hj => ?_)
  have q := h.each j (by omega)
  unfold covErr
  split
  · rename_i e
    subst e
    have hf := h.first
    refine orE_zero (eN_zero (by omega) (by omega)) (orE_zero ?_ (orE_zero (eS_zero (by omega) (by omega) (by omega)) ?_))
    · simp [eO, hf]
    · have e1 : l.P0 0 ≤ 1000000 := by omega
      have e2 : l.P1 0 ≤ 1000000 := by omega
      simp [eO, e1, e2]
  · have p := h.next (j - 1) (by omega)
    rw [show j - 1 + 1 = j by omega] at p
    refine orE_zero (eN_zero (by omega) (by omega)) (orE_zero ?_ (orE_zero (eS_zero (by omega) (by omega) (by omega)) ?_))
    · simp [eO, p.1]
    · simp [eO, p.2.1, p.2.2]
theorem Dy.Ok.e {d : Dy} (h : d.Ok) : dayErr d = 0 := orE_zero (eS_zero h.c0 h.c1 h.c2) (orE_zero (eS_zero h.f0 h.f1 h.f2) (eN_zero h.w0 h.w1))
theorem eDs_zero {n : Nat} {d : Nat → Dy} (hn : n ≤ 400) (h : ∀ i, i < n → (d i).Ok) : eDs n d = 0 := by
  unfold eDs
  rw [if_neg (by omega)]
  exact firstNZ_zero _ _ _ (fun j _ hj => (h j (by omega)).e)

end Go.Proofs.YtdbiijldincoiaaGreat

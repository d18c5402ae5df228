/-
  What FuelDips says, as mathematics: contents of a tank and standard litres, in order.
-/
import Derived.Test.YtegdflikeoiaaaaVan
import Derived.Test.YtegdflikeoiaaaaStn
set_option linter.unusedVariables false
set_option linter.unusedSimpArgs false
namespace Go.Proofs.Ytegdflikeoiaaaa
open Go.RowKit

theorem TkOk.hmono {n : Nat} {H L : Nat → Int} (ok : TkOk n H L) : ∀ d i, i + d < n → H i ≤ H (i + d)
  | 0, i, _ => Int.le_refl _
  | d + 1, i, hi => by
    have := ok.hmono d i (by omega)
    have := ok.hs (i + d) (by omega)
    rw [show i + (d + 1) = i + d + 1 by omega]
    omega
theorem TkOk.lmono {n : Nat} {H L : Nat → Int} (ok : TkOk n H L) : ∀ d i, i + d < n → L i ≤ L (i + d)
  | 0, i, _ => Int.le_refl _
  | d + 1, i, hi => by
    have := ok.lmono d i (by omega)
    have := ok.ls (i + d) (by omega)
    rw [show i + (d + 1) = i + d + 1 by omega]
    omega
theorem ctd_comm (H L : Nat → Int) (h : Int) (k : Nat) : ctLo H L h k = L k + (L (k + 1) - L k) * (h - H k) / (H (k + 1) - H k) ∧ ctHi H L h k = L k + upQ ((L (k + 1) - L k) * (h - H k)) (H (k + 1) - H k) := by
  unfold ctLo ctHi
  rw [Int.mul_comm (L (k + 1) - L k)]
  exact ⟨rfl, rfl⟩
theorem upQ_mono {a b d : Int} (h : a ≤ b) (hd : 0 < d) : upQ a d ≤ upQ b d := Int.ediv_le_ediv hd (by omega)
theorem upQ_one {a d : Int} (ha : 0 ≤ a) (hd : 0 < d) : a / d ≤ upQ a d ∧ upQ a d ≤ a / d + 1 := by
  rw [up_eq ha hd]
  by_cases h : a % d = 0
  · rw [if_pos h]; omega
  · rw [if_neg h]; omega
theorem upQ_mul {a d : Int} (hd : 0 < d) : a ≤ upQ a d * d := by
  have h1 := Int.mul_ediv_add_emod (a + d - 1) d
  have h2 := Int.emod_lt_of_pos (a + d - 1) hd
  unfold upQ
  rw [Int.mul_comm]
  omega
theorem div_mul_le {a d : Int} (hd : 0 < d) : a / d * d ≤ a := Int.ediv_mul_le a (by omega)
theorem part_in {n : Nat} {H L : Nat → Int} {h : Int} {k : Nat} (ok : TkOk n H L) (hp : Part n H h k) : L k ≤ ctLo H L h k ∧ ctLo H L h k ≤ L (k + 1) ∧ L k ≤ ctHi H L h k ∧ ctHi H L h k ≤ L (k + 1) ∧ ctLo H L h k ≤ ctHi H L h k ∧ ctHi H L h k ≤ ctLo H L h k + 1 := by
  have hk := hp.k1
  have o5 := ok.hs k hk
  have o6 := ok.ls k hk
  have o7 := hp.lo
  have o8 := hp.hi
  have hd : 0 < H (k + 1) - H k := by omega
  have m0 : 0 ≤ (h - H k) * (L (k + 1) - L k) := Int.mul_nonneg (by omega) (by omega)
  have m1 : (h - H k) * (L (k + 1) - L k) ≤ (H (k + 1) - H k) * (L (k + 1) - L k) := Int.mul_le_mul_of_nonneg_right (by omega) (by omega)
  have q0 := Int.ediv_nonneg m0 (show 0 ≤ H (k + 1) - H k by omega)
  have q1 : (h - H k) * (L (k + 1) - L k) / (H (k + 1) - H k) ≤ L (k + 1) - L k := by
    have := Int.ediv_le_ediv hd m1
    rw [Int.mul_ediv_cancel_left _ (by omega)] at this
    exact this
  have q2 : upQ ((h - H k) * (L (k + 1) - L k)) (H (k + 1) - H k) ≤ L (k + 1) - L k := by
    have := upQ_mono m1 hd
    rw [up_eq (Int.le_trans m0 m1) hd, if_pos (Int.mul_emod_right _ _), Int.mul_ediv_cancel_left _ (by omega)] at this
    exact this
  have q3 := upQ_one m0 hd
  unfold ctLo ctHi
  omega
theorem part_le {n : Nat} {H L : Nat → Int} {h h' : Int} {j k : Nat} (ok : TkOk n H L) (a : Part n H h j) (b : Part n H h' k) (hh : h ≤ h') : j ≤ k := by
  rcases Nat.lt_or_ge k j with hkj | hkj
  · have h1 := a.ge (j - 1) (by omega)
    have h2 := ok.hmono (j - (k + 1)) (k + 1) (by have := a.k1; omega)
    rw [show k + 1 + (j - (k + 1)) = j by omega] at h2
    have := b.hi
    omega
  · exact hkj
theorem ct_mono {n : Nat} {H L : Nat → Int} {h h' : Int} {j k : Nat} (ok : TkOk n H L) (a : Part n H h j) (b : Part n H h' k) (hh : h ≤ h') : ctLo H L h j ≤ ctLo H L h' k ∧ ctHi H L h j ≤ ctHi H L h' k := by
  have hjk := part_le ok a b hh
  rcases Nat.lt_or_ge j k with hlt | hge
  · have p := part_in ok a
    have q := part_in ok b
    have h2 := ok.lmono (k - (j + 1)) (j + 1) (by have := b.k1; omega)
    rw [show j + 1 + (k - (j + 1)) = k by omega] at h2
    omega
  · obtain rfl : j = k := by omega
    have o5 := ok.hs j a.k1
    have o6 := ok.ls j a.k1
    have hd : 0 < H (j + 1) - H j := by omega
    have m1 : (h - H j) * (L (j + 1) - L j) ≤ (h' - H j) * (L (j + 1) - L j) := Int.mul_le_mul_of_nonneg_right (by omega) (by omega)
    have q1 := Int.ediv_le_ediv hd m1
    have q2 := upQ_mono m1 hd
    unfold ctLo ctHi
    omega
theorem ct_true {n : Nat} {H L : Nat → Int} {h : Int} {k : Nat} (ok : TkOk n H L) (hp : Part n H h k) : ctLo H L h k * (H (k + 1) - H k) ≤ L k * (H (k + 1) - H k) + (L (k + 1) - L k) * (h - H k) ∧ L k * (H (k + 1) - H k) + (L (k + 1) - L k) * (h - H k) ≤ ctHi H L h k * (H (k + 1) - H k) := by
  have o5 := ok.hs k hp.k1
  have hd : 0 < H (k + 1) - H k := by omega
  obtain ⟨e1, e2⟩ := ctd_comm H L h k
  rw [e1, e2, Int.add_mul, Int.add_mul]
  have q1 := div_mul_le (a := (L (k + 1) - L k) * (h - H k)) hd
  have q2 := upQ_mul (a := (L (k + 1) - L k) * (h - H k)) hd
  omega
theorem shk_in {b0 b1 t0 t1 b t : Int} (hb0 : b0 ≤ b) (hb1 : b ≤ b1) (ht0 : t0 ≤ t) (ht1 : t ≤ t1) (h0 : 0 ≤ b0) : shMn b0 b1 t0 t1 ≤ shk b t ∧ shk b t ≤ shMx b0 b1 t0 t1 := by
  have a1 : b0 * (t - 150) ≤ b0 * (t1 - 150) := Int.mul_le_mul_of_nonneg_left (by omega) h0
  have a2 : b0 * (t0 - 150) ≤ b0 * (t - 150) := Int.mul_le_mul_of_nonneg_left (by omega) h0
  have a3 : b1 * (t - 150) ≤ b1 * (t1 - 150) := Int.mul_le_mul_of_nonneg_left (by omega) (by omega)
  have a4 : b1 * (t0 - 150) ≤ b1 * (t - 150) := Int.mul_le_mul_of_nonneg_left (by omega) (by omega)
  unfold shMn shMx max4 min4 shk
  rcases Int.le_total 0 (t - 150) with hu | hu
  · have c1 : b0 * (t - 150) ≤ b * (t - 150) := Int.mul_le_mul_of_nonneg_right hb0 hu
    have c2 : b * (t - 150) ≤ b1 * (t - 150) := Int.mul_le_mul_of_nonneg_right hb1 hu
    generalize b * (t - 150) = x at *
    generalize b0 * (t - 150) = x0 at *
    generalize b1 * (t - 150) = x1 at *
    generalize b0 * (t0 - 150) = y0 at *
    generalize b0 * (t1 - 150) = y1 at *
    generalize b1 * (t0 - 150) = y2 at *
    generalize b1 * (t1 - 150) = y3 at *
    omega
  · have c1 : b * (t - 150) ≤ b0 * (t - 150) := Int.mul_le_mul_of_nonpos_right hb0 hu
    have c2 : b1 * (t - 150) ≤ b * (t - 150) := Int.mul_le_mul_of_nonpos_right hb1 hu
    generalize b * (t - 150) = x at *
    generalize b0 * (t - 150) = x0 at *
    generalize b1 * (t - 150) = x1 at *
    generalize b0 * (t0 - 150) = y0 at *
    generalize b0 * (t1 - 150) = y1 at *
    generalize b1 * (t0 - 150) = y2 at *
    generalize b1 * (t1 - 150) = y3 at *
    omega
theorem sh_sub {b0 b1 t0 t1 b2 b3 t2 t3 : Int} (h0 : 0 ≤ b0) (hb0 : b0 ≤ b2) (hb : b2 ≤ b3) (hb1 : b3 ≤ b1) (ht0 : t0 ≤ t2) (ht : t2 ≤ t3) (ht1 : t3 ≤ t1) : shMn b0 b1 t0 t1 ≤ shMn b2 b3 t2 t3 ∧ shMx b2 b3 t2 t3 ≤ shMx b0 b1 t0 t1 := by
  have a := shk_in (t0 := t0) (t1 := t1) (t := t2) hb0 (show b2 ≤ b1 by omega) ht0 (by omega) h0
  have b := shk_in (t0 := t0) (t1 := t1) (t := t3) hb0 (show b2 ≤ b1 by omega) (by omega) ht1 h0
  have c := shk_in (t0 := t0) (t1 := t1) (t := t2) (show b0 ≤ b3 by omega) hb1 ht0 (by omega) h0
  have d := shk_in (t0 := t0) (t1 := t1) (t := t3) (show b0 ≤ b3 by omega) hb1 (by omega) ht1 h0
  revert a b c d
  generalize shMn b0 b1 t0 t1 = m
  generalize shMx b0 b1 t0 t1 = M
  unfold shMn shMx max4 min4
  generalize shk b2 t2 = x0
  generalize shk b2 t3 = x1
  generalize shk b3 t2 = x2
  generalize shk b3 t3 = x3
  omega
theorem st_sub {l0 l1 l2 l3 b0 b1 t0 t1 b2 b3 t2 t3 : Int} (h0 : 0 ≤ b0) (hb0 : b0 ≤ b2) (hb : b2 ≤ b3) (hb1 : b3 ≤ b1) (hb2 : b1 ≤ 200) (hT0 : -1000 ≤ t0) (ht0 : t0 ≤ t2) (ht : t2 ≤ t3) (ht1 : t3 ≤ t1) (hT1 : t1 ≤ 1000) (hl0 : 0 ≤ l0) (hl : l0 ≤ l2) (hl2 : l2 ≤ l3) (hl3 : l3 ≤ l1) :
    stLo l0 b0 b1 t0 t1 ≤ stLo l2 b2 b3 t2 t3 ∧ stHi l3 b2 b3 t2 t3 ≤ stHi l1 b0 b1 t0 t1 := by
  obtain ⟨h1, h2⟩ := sh_sub h0 hb0 hb hb1 ht0 ht ht1
  have q0 := shk_bd h0 (show b0 ≤ 200 by omega) hT0 (show t0 ≤ 1000 by omega)
  have q1 := shk_bd h0 (show b0 ≤ 200 by omega) (show -1000 ≤ t1 by omega) hT1
  have q2 := shk_bd (show 0 ≤ b1 by omega) hb2 hT0 (show t0 ≤ 1000 by omega)
  have q3 := shk_bd (show 0 ≤ b1 by omega) hb2 (show -1000 ≤ t1 by omega) hT1
  have qM : -230000 ≤ shMx b0 b1 t0 t1 ∧ shMx b0 b1 t0 t1 ≤ 230000 := max4_bd q0 q1 q2 q3
  have qN : -230000 ≤ shMn b0 b1 t0 t1 ∧ shMn b0 b1 t0 t1 ≤ 230000 := min4_bd q0 q1 q2 q3
  have q4 := shk_bd (show 0 ≤ b2 by omega) (show b2 ≤ 200 by omega) (show -1000 ≤ t2 by omega) (show t2 ≤ 1000 by omega)
  have q5 := shk_bd (show 0 ≤ b2 by omega) (show b2 ≤ 200 by omega) (show -1000 ≤ t3 by omega) (show t3 ≤ 1000 by omega)
  have q6 := shk_bd (show 0 ≤ b3 by omega) (show b3 ≤ 200 by omega) (show -1000 ≤ t2 by omega) (show t2 ≤ 1000 by omega)
  have q7 := shk_bd (show 0 ≤ b3 by omega) (show b3 ≤ 200 by omega) (show -1000 ≤ t3 by omega) (show t3 ≤ 1000 by omega)
  have qN2 : -230000 ≤ shMn b2 b3 t2 t3 ∧ shMn b2 b3 t2 t3 ≤ 230000 := min4_bd q4 q5 q6 q7
  unfold stLo stHi
  generalize shMx b0 b1 t0 t1 = M at *
  generalize shMn b0 b1 t0 t1 = m at *
  generalize shMx b2 b3 t2 t3 = M2 at *
  generalize shMn b2 b3 t2 t3 = m2 at *
  refine ⟨Int.ediv_le_ediv (by omega) ?_, upQ_mono ?_ (by omega)⟩
  · exact Int.mul_le_mul hl (by omega) (by omega) (by omega)
  · exact Int.mul_le_mul hl3 (by omega) (by omega) (by omega)
theorem st_true {l0 l1 b0 b1 t0 t1 v q p : Int} (h0 : 0 ≤ b0) (hb0 : b0 ≤ q) (hb1 : q ≤ b1) (hb2 : b1 ≤ 200) (hT0 : -1000 ≤ t0) (ht0 : t0 ≤ p) (ht1 : p ≤ t1) (hT1 : t1 ≤ 1000) (hl0 : 0 ≤ l0) (hl : l0 ≤ v) (hl1 : v ≤ l1) :
    stLo l0 b0 b1 t0 t1 * 1000000 ≤ v * (1000000 - shk q p) ∧ v * (1000000 - shk q p) ≤ stHi l1 b0 b1 t0 t1 * 1000000 := by
  obtain ⟨h1, h2⟩ := shk_in hb0 hb1 ht0 ht1 h0
  have q0 := shk_bd h0 (show b0 ≤ 200 by omega) hT0 (show t0 ≤ 1000 by omega)
  have q1 := shk_bd h0 (show b0 ≤ 200 by omega) (show -1000 ≤ t1 by omega) hT1
  have q2 := shk_bd (show 0 ≤ b1 by omega) hb2 hT0 (show t0 ≤ 1000 by omega)
  have q3 := shk_bd (show 0 ≤ b1 by omega) hb2 (show -1000 ≤ t1 by omega) hT1
  have qM : -230000 ≤ shMx b0 b1 t0 t1 ∧ shMx b0 b1 t0 t1 ≤ 230000 := max4_bd q0 q1 q2 q3
  have qN : -230000 ≤ shMn b0 b1 t0 t1 ∧ shMn b0 b1 t0 t1 ≤ 230000 := min4_bd q0 q1 q2 q3
  unfold stLo stHi
  generalize shMx b0 b1 t0 t1 = M at *
  generalize shMn b0 b1 t0 t1 = m at *
  generalize shk q p = s at *
  have a1 : l0 * (1000000 - M) ≤ v * (1000000 - s) := Int.mul_le_mul hl (by omega) (by omega) (by omega)
  have a2 : v * (1000000 - s) ≤ l1 * (1000000 - m) := Int.mul_le_mul hl1 (by omega) (by omega) (by omega)
  have a3 := div_mul_le (a := l0 * (1000000 - M)) (show (0 : Int) < 1000000 by omega)
  have a4 := upQ_mul (a := l1 * (1000000 - m)) (show (0 : Int) < 1000000 by omega)
  omega
theorem part_ex {n : Nat} {H L : Nat → Int} (ok : TkOk n H L) {h : Int} (g0 : H 0 ≤ h) : ∀ m, m + 1 < n → h ≤ H (m + 1) → ∃ k, Part n H h k
  | 0, hm, h1 => ⟨0, hm, g0, h1, fun j hj => by omega⟩
  | m + 1, hm, h1 => by
    by_cases e : h ≤ H (m + 1)
    · exact part_ex ok g0 m (by omega) e
    · exact ⟨m + 1, hm, by omega, h1, fun j hj => by omega⟩
end Go.Proofs.Ytegdflikeoiaaaa

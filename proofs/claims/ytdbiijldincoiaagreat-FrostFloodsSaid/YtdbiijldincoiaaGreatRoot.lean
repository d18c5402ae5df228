/-
  Square roots, rounded down: frost.Root returns them for every number; frost.roots returns both roundings.
-/
import Derived.Test.YtdbiijldincoiaaGreatTail
import Derived.Test.YtdbiijldincoiaaGreatChk
import Derived.Test.YtdbiijldincoiaaGreatShelf
set_option linter.unusedVariables false
set_option linter.unusedSimpArgs false
namespace Go.Proofs.YtdbiijldincoiaaGreat
open Go.RowKit

def rt : Nat → Nat
  | 0 => 0
  | n + 1 => if (rt n + 1) * (rt n + 1) ≤ n + 1 then rt n + 1 else rt n

theorem rt_spec (n : Nat) : rt n * rt n ≤ n ∧ n < (rt n + 1) * (rt n + 1) := by
  induction n with
  | zero => simp [rt]
  | succ n ih =>
    obtain ⟨h1, h2⟩ := ih
    rw [rt]
    by_cases h : (rt n + 1) * (rt n + 1) ≤ n + 1
    · rw [if_pos h]
      refine ⟨h, ?_⟩
      have e : (rt n + 1 + 1) * (rt n + 1 + 1) = (rt n + 1) * (rt n + 1) + (rt n + 1) + (rt n + 1) + 1 := by
        simp only [Nat.mul_add, Nat.add_mul, Nat.mul_one, Nat.one_mul]; omega
      omega
    · rw [if_neg h]
      exact ⟨by omega, by omega⟩

theorem sq_lt {a b : Nat} (h : a * a < b * b) : a < b := by
  by_cases hab : b ≤ a
  · have := Nat.mul_le_mul hab hab
    omega
  · omega

theorem rt_le {n r : Nat} (h : n < (r + 1) * (r + 1)) : rt n ≤ r := by
  have := (rt_spec n).1
  have h2 : rt n < r + 1 := sq_lt (by omega)
  omega

theorem le_rt {n r : Nat} (h : r * r ≤ n) : r ≤ rt n := by
  have := (rt_spec n).2
  have h2 : r < rt n + 1 := sq_lt (by omega)
  omega

theorem rt_unique {n r : Nat} (h1 : r * r ≤ n) (h2 : n < (r + 1) * (r + 1)) : rt n = r := by
  have := rt_le h2
  have := le_rt h1
  omega

theorem amgm {a b s : Nat} (h : a + b ≤ 2 * s) : a * b ≤ s * s := by
  by_cases ha : a ≤ s
  · obtain ⟨d, rfl⟩ : ∃ d, s = a + d := ⟨s - a, by omega⟩
    have h1 : a * b ≤ a * (a + 2 * d) := Nat.mul_le_mul (Nat.le_refl _) (by omega)
    have e1 : a * (a + 2 * d) = a * a + 2 * (a * d) := by rw [Nat.mul_add, Nat.mul_left_comm]
    have e2 : (a + d) * (a + d) = a * a + a * d + (a * d + d * d) := by rw [Nat.mul_add, Nat.add_mul, Nat.add_mul, Nat.mul_comm d a]
    omega
  · obtain ⟨d, rfl⟩ : ∃ d, s = b + d := ⟨s - b, by omega⟩
    have h1 : a * b ≤ (b + 2 * d) * b := Nat.mul_le_mul (by omega) (Nat.le_refl _)
    have e1 : (b + 2 * d) * b = b * b + 2 * (b * d) := by rw [Nat.add_mul, Nat.mul_assoc, Nat.mul_comm d b]
    have e2 : (b + d) * (b + d) = b * b + b * d + (b * d + d * d) := by rw [Nat.mul_add, Nat.add_mul, Nat.add_mul, Nat.mul_comm d b]
    omega

theorem newton_ge (n r : Nat) (hr : 1 ≤ r) : rt n ≤ (r + n / r) / 2 := by
  have h1 := (rt_spec n).1
  have hq : n < (n / r + 1) * r := by
    have := Nat.div_add_mod n r
    have := Nat.mod_lt n (show 0 < r by omega)
    have e : (n / r + 1) * r = r * (n / r) + r := by rw [Nat.add_mul, Nat.mul_comm, Nat.one_mul]
    omega
  by_cases h : rt n ≤ (r + n / r) / 2
  · exact h
  · have := amgm (a := n / r + 1) (b := r) (s := rt n) (by omega)
    omega

theorem newton_end (n r : Nat) (h0 : rt n ≤ r) (h : r ≤ (r + n / r) / 2) : rt n = r := by
  have h1 : r ≤ n / r := by omega
  have h2 : r * r ≤ n := Nat.le_trans (Nat.mul_le_mul (Nat.le_refl r) h1) (Nat.mul_div_le n r)
  have := le_rt h2
  omega

theorem bitLenAux_lt : ∀ (f x : Nat), x < 2 ^ f → x < 2 ^ Lib.bitLenAux f x
  | 0, x, h => by simpa [Lib.bitLenAux] using h
  | f + 1, x, h => by
    unfold Lib.bitLenAux
    split
    · rename_i h0; subst h0; simp
    · have ih := bitLenAux_lt f (x / 2) (by rw [Nat.pow_succ] at h; omega)
      rw [Nat.pow_add]
      omega
theorem bitLenAux_le : ∀ (f x k : Nat), x < 2 ^ k → Lib.bitLenAux f x ≤ k
  | 0, x, k, h => by simp [Lib.bitLenAux]
  | f + 1, x, k, h => by
    unfold Lib.bitLenAux
    split
    · omega
    · cases k with
      | zero => simp at h; omega
      | succ k =>
        have ih := bitLenAux_le f (x / 2) k (by rw [Nat.pow_succ] at h; omega)
        omega

set_option maxHeartbeats 1000000 in
theorem root_pos (m : Nat) (h1 : 1 ≤ m) (h2 : m ≤ 9223372036854775807) (w : World) :
    Calls Tryz.prog 32 #[.int .i64 m] w fun e w' => e = .returned (.int .i64 (rt m)) ∧ w = w' := by
  have hL : ∀ W, Calls Tryz.prog 60 #[.int .u64 m] W fun e w' => e = .returned (.int .i64 (Lib.bitLen m)) ∧ W = w' := fun W => (Tryz.bits_Len m W (by omega) (by omega)).mono fun e w' ⟨he, hw⟩ => ⟨by simpa using he, hw.symm⟩
  have hb1 : m < 2 ^ Lib.bitLen m := bitLenAux_lt 64 m (by omega)
  have hb2 : Lib.bitLen m ≤ 63 := bitLenAux_le 64 m 63 (by omega)
  obtain ⟨l, hl⟩ : ∃ l, Lib.bitLen m = l := ⟨_, rfl⟩
  rw [hl] at hL hb1 hb2
  clear hl
  have hm1 : decide ((m : Int) < 1) = false := by simp; omega
  have HL : Hid _ := hL
  have HB : Hid _ := hb1
  clear hL hb1
  go_enter Tryz.func32, Tryz.ntmps32
  go_wp2_with (go_at_call 60; refine (HL.out _).mono ?_; rintro e w' ⟨rfl, rfl⟩)
  have hp : 2 ^ ((l + 1) / 2) ≤ 4294967296 := Nat.le_trans (Nat.pow_le_pow_right (by omega) (show (l + 1) / 2 ≤ 32 by omega)) (by decide)
  have hw0 : wrap64 (2 ^ ((l + 1) / 2)) = ((2 ^ ((l + 1) / 2) : Nat) : Int) := by
    have : ((2 : Int) ^ ((l + 1) / 2)) = ((2 ^ ((l + 1) / 2) : Nat) : Int) := by simp
    rw [this]
    have hz : (0 : Int) ≤ ((2 ^ ((l + 1) / 2) : Nat) : Int) := Int.natCast_nonneg _
    generalize 2 ^ ((l + 1) / 2) = z at hp hz ⊢
    exact IntWalk.wrap64_in _ ⟨by omega, by omega⟩
  have hs0 : rt m ≤ 2 ^ ((l + 1) / 2) := by
    have a := (rt_spec m).1
    have b : 2 ^ l ≤ 2 ^ ((l + 1) / 2) * 2 ^ ((l + 1) / 2) := by
      rw [← Nat.pow_add]
      exact Nat.pow_le_pow_right (by omega) (by omega)
    have := HB.out
    exact Nat.le_of_lt (sq_lt (by omega))
  have hq0 : 1 ≤ 2 ^ ((l + 1) / 2) := Nat.one_le_two_pow
  rw [hw0]
  clear hw0
  obtain ⟨r0, hr0⟩ : ∃ r0, 2 ^ ((l + 1) / 2) = r0 := ⟨_, rfl⟩
  rw [hr0] at hp hs0 hq0 ⊢
  clear hr0
  go_loop [3] (fun t => ∃ r : Nat, t = .int .i64 r ∧ rt m ≤ r ∧ 1 ≤ r ∧ r ≤ 4294967296) (fun t => (intOf t).toNat)
  case atStart => exact ⟨r0, rfl, hs0, hq0, hp⟩
  case round =>
    obtain ⟨r, rfl, h3, h4, h5⟩ := hrel
    have hq2 : m / r ≤ r + 2 := by
      have a := (rt_spec m).2
      have b : (rt m + 1) * (rt m + 1) ≤ (r + 1) * (r + 1) := Nat.mul_le_mul (by omega) (by omega)
      have e : (r + 1) * (r + 1) = (r + 2) * r + 1 := by simp only [Nat.mul_add, Nat.add_mul, Nat.mul_one, Nat.one_mul]; omega
      have c : m / r * r ≤ m := Nat.div_mul_le_self m r
      by_cases hh : m / r ≤ r + 2
      · exact hh
      · have := Nat.mul_le_mul (show r + 3 ≤ m / r by omega) (Nat.le_refl r)
        have e2 : (r + 3) * r = (r + 2) * r + r := by rw [← Nat.succ_mul]
        omega
    have hrt1 : 1 ≤ rt m := le_rt (by omega)
    have N1 := newton_ge m r h4
    have N2 := newton_end m r h3
    have ec : (m : Int) / (r : Int) = ((m / r : Nat) : Int) := by simp
    obtain ⟨q, hq⟩ : ∃ q, m / r = q := ⟨_, rfl⟩
    rw [hq] at N1 N2 hq2 ec
    have ecl : (m : Int) / (r : Int) ≤ q := by omega
    have ecg : (q : Int) ≤ (m : Int) / (r : Int) := by omega
    have EC : Hid _ := ec
    clear hq ec
    by_cases hge : r ≤ (r + q) / 2
    · have hrt : Hid _ := N2 hge
      clear N2
      go_wp2
      go_ret
      exact ⟨ret_int (by rw [hrt.out]), rfl⟩
    · clear N2
      go_wp2
      go_round
      case rel => exact ⟨(r + q) / 2, by rw [EC.out]; go_num, N1, by omega, by omega⟩
      case measure => simp [intOf]; omega

theorem root_neg (n : Int) (h : n < 1) (w : World) :
    Calls Tryz.prog 32 #[.int .i64 n] w fun e w' => e = .returned (.int .i64 0) ∧ w = w' := by
  go_enter Tryz.func32, Tryz.ntmps32
  go_wp2
  go_ret
  exact ⟨rfl, rfl⟩

def rtI (n : Int) : Int := rt n.toNat

theorem root_any (n : Int) (w : World) (h : n ≤ 9223372036854775807) :
    Calls Tryz.prog 32 #[.int .i64 n] w fun e w' => e = .returned (.int .i64 (rtI n)) ∧ w = w' := by
  by_cases h1 : n < 1
  · have e : rtI n = 0 := by
      unfold rtI
      rw [show n.toNat = 0 by omega]
      rfl
    rw [e]
    exact root_neg n h1 w
  · obtain ⟨m, rfl⟩ : ∃ m : Nat, n = m := ⟨n.toNat, by omega⟩
    have e : rtI (m : Int) = rt m := by simp [rtI]
    rw [e]
    exact root_pos m (by omega) (by omega) w

def rfI (n : Int) : Int := if rtI n * rtI n < n then rtI n + 1 else rtI n

theorem rtI_bd (n : Int) (h : n ≤ 9223372036854775807) : 0 ≤ rtI n ∧ rtI n ≤ 3037000499 := by
  unfold rtI
  have := rt_le (n := n.toNat) (r := 3037000499) (by omega)
  omega
theorem rtI_sq (n : Int) (h0 : 0 ≤ n) : rtI n * rtI n ≤ n := by
  have h := (rt_spec n.toNat).1
  unfold rtI
  have : ((rt n.toNat * rt n.toNat : Nat) : Int) ≤ (n.toNat : Int) := by omega
  rw [Int.natCast_mul] at this
  omega

set_option maxHeartbeats 1000000 in
theorem roots_any (n : Int) (w : World) (h0 : 0 ≤ n) (h : n ≤ 9223372036854775807) :
    Calls Tryz.prog 114 #[.int .i64 n] w fun e w' => e = .returned (.agg #[.int .i64 (rtI n), .int .i64 (rfI n)]) ∧ Below w.heap.size w w' := by
  have hb := rtI_bd n h
  have hs := rtI_sq n h0
  have hn : (0 : Int) ≤ rtI n * rtI n := Int.mul_nonneg hb.1 hb.1
  have hR : ∀ W, Calls Tryz.prog 32 #[.int .i64 n] W fun e w' => e = .returned (.int .i64 (rtI n)) ∧ W = w' := fun W => root_any n W h
  have HF : Hid (rfI n = if rtI n * rtI n < n then rtI n + 1 else rtI n) := rfl
  obtain ⟨r, hr⟩ : ∃ r, rtI n = r := ⟨_, rfl⟩
  rw [hr] at hb hs hn hR HF ⊢
  clear hr
  obtain ⟨f, hf⟩ : ∃ f, rfI n = f := ⟨_, rfl⟩
  rw [hf] at HF ⊢
  clear hf
  obtain ⟨hb1, hb2⟩ := hb
  have HR : Hid _ := hR
  clear hR
  by_cases hlt : r * r < n
  · have HF2 : Hid (f = r + 1) := HF.out.trans (if_pos hlt)
    go_enter Tryz.func114, Tryz.ntmps114
    go_wp2_with (go_at_call 32; refine (HR.out _).mono ?_; rintro e w' ⟨rfl, rfl⟩)
    refine bodyPost_ret (v := .agg #[.int .i64 r, .int .i64 (r + 1)]) (by simp [results, Tryz.results114, go_sem]) rfl ⟨by rw [HF2.out], by (go_split_ands; first | assumption | (repeat (first | exact Below.refl _ _ | assumption | refine Below.drew ?_ | refine Below.drewN ?_ _ | refine blT ?_ | refine blU ?_)))⟩
  · have HF2 : Hid (f = r) := HF.out.trans (if_neg hlt)
    go_enter Tryz.func114, Tryz.ntmps114
    go_wp2_with (go_at_call 32; refine (HR.out _).mono ?_; rintro e w' ⟨rfl, rfl⟩)
    refine bodyPost_ret (v := .agg #[.int .i64 r, .int .i64 r]) (by simp [results, Tryz.results114, go_sem]) rfl ⟨by rw [HF2.out], by (go_split_ands; first | assumption | (repeat (first | exact Below.refl _ _ | assumption | refine Below.drew ?_ | refine Below.drewN ?_ _ | refine blT ?_ | refine blU ?_)))⟩
end Go.Proofs.YtdbiijldincoiaaGreat

/-
  Contracts of the checks of numbers and spans (packages check and frost): what each returns; old memory stays. No condition.
-/
import Derived.Test.YtpeogfcfiabcfaaTail
import Derived.Test.YtpeogfcfiabcfaaProg
import Derived.WalkKit
import Derived.WalkSpells
import Derived.WalkLawsBesides
import Derived.KernelRfl
import Derived.Deep.RegionHeld3
import Derived.StillTactics
import Derived.Laws.Pointers
import Derived.Deep.DeepCutAuto
import Derived.Lib.Hide
set_option linter.unusedVariables false
set_option linter.unusedSimpArgs false
namespace Go.Proofs.Ytpeogfcfiabcfaa
open Go.RowKit

def eN (n lo hi : Int) : Int := if n < lo ∨ hi < n then 2 else 0
def eO (b : Bool) : Int := if b then 0 else 11
def eM (n m : Int) : Int := if m < n then 8 else 0
def orE (a b : Int) : Int := if a = 0 then b else a

def firstNZ (x : Nat → Int) : Nat → Nat → Int
  | _, 0 => 0
  | i, m + 1 => orE (x i) (firstNZ x (i + 1) m)

theorem firstNZ_step0 (x : Nat → Int) (n k : Nat) (hk : k < n) (h : x k = 0) : firstNZ x k (n - k) = firstNZ x (k+1) (n - (k+1)) := by
  obtain ⟨m, rfl⟩ : ∃ m, n = k + (m+1) := ⟨n - k - 1, by omega⟩
  rw [show k + (m+1) - k = m + 1 by omega, show k + (m+1) - (k+1) = m by omega, firstNZ, orE, if_pos h]
theorem firstNZ_stepN (x : Nat → Int) (n k : Nat) (hk : k < n) (h : ¬ x k = 0) : firstNZ x k (n - k) = x k := by
  obtain ⟨m, rfl⟩ : ∃ m, n = k + (m+1) := ⟨n - k - 1, by omega⟩
  rw [show k + (m+1) - k = m + 1 by omega, firstNZ, orE, if_neg h]

theorem bwS {B : Nat} {w W w' : World} (h : Below B w W) (hB : B ≤ w.heap.size) (k : Below W.heap.size W w') : Below B w w' := h.trans (k.mono (Nat.le_trans hB h.size))

theorem bwA {B : Nat} {w W : World} (h : Below B w W) (hB : B ≤ w.heap.size) (o : Obj) : Below B w (W.alloc o) := h.alloc (Nat.le_trans hB h.size) o
theorem ret_int {k : IntKind} {a b : Int} (h : a = b) : Ending.returned (.int k a) = .returned (.int k b) := by rw [h]

set_option maxHeartbeats 400000 in
theorem first_any (b o cap n : Nat) (x : Nat → Int) (w : World) (hl : n ≤ maxLen) 
   (hc : ∀ i, i < n → w.cell? ⟨b, o + i, none⟩ = some (.int .i64 (x i))) :
    Calls Try.prog 77 #[.slice (some ⟨b, o, none⟩) n cap] w fun e w' => e = .returned (.int .i64 (firstNZ x 0 n)) ∧ w = w' := by
  unfold maxLen at hl
  go_enter Try.func77, Try.ntmps77
  go_wp2
  go_loop [4, 7, 10, 11, 12, 13, 14] (fun _ i _ _ _ _ _ => ∃ k : Nat, k ≤ n ∧ i = .int .i64 k ∧ firstNZ x 0 n = firstNZ x k (n - k)) (fun _ i _ _ _ _ _ => n - (intOf i).toNat)
  case atStart => exact ⟨0, Nat.zero_le _, rfl, rfl⟩
  case round =>
    obtain ⟨k, hk, rfl, hd⟩ := hrel
    have HD : Hid (firstNZ x 0 n = firstNZ x k (n - k)) := hd
    clear hd
    by_cases hlt : k < n
    · have hcell := hc k hlt
      clear hc
      by_cases hz : x k = 0
      · have H0 : Hid _ := firstNZ_step0 x n k hlt hz
        have hz' : (x k != 0) = false := by simpa using hz
        clear hz 
        go_wp2
        go_round
        case rel => exact ⟨k + 1, by omega, by go_num, by rw [HD.out, H0.out]⟩
        case measure => simp [intOf]; omega
      · have H0 : Hid _ := firstNZ_stepN x n k hlt hz
        have hz' : (x k != 0) = true := by simpa using hz
        clear hz 
        go_wp2
        go_ret
        exact ⟨by rw [HD.out, H0.out]; rfl, rfl⟩
    · go_wp2
      go_ret
      have : n - k = 0 := by omega
      exact ⟨by rw [HD.out, this]; rfl, rfl⟩

def uE (b : Bool) (e : Int) : Int := if b then 0 else e
theorem unless_any (b : Bool) (e : Int) (w : World) :
    Calls Try.prog 123 #[.bool b, .int .i64 e] w fun r w' => r = .returned (.int .i64 (uE b e)) ∧ w = w' := by
  cases b
  · go_enter Try.func123, Try.ntmps123
    go_wp2
    go_ret
    simp [uE]
  · go_enter Try.func123, Try.ntmps123
    go_wp2
    go_ret
    simp [uE]

set_option maxHeartbeats 400000 in
theorem number_any (n lo hi : Int) (w : World) :
    Calls Try.prog 113 #[.int .i64 n, .int .i64 lo, .int .i64 hi] w fun e w' => e = .returned (.int .i64 (eN n lo hi)) ∧ w = w' := by
  by_cases h1 : n < lo
  · go_enter Try.func113, Try.ntmps113
    go_wp2_with (go_at_call 123; refine (unless_any _ _ _).mono ?_; rintro e w' ⟨rfl, rfl⟩)
    go_ret
    (try simp_all [eN, uE])
    (try omega)
  · by_cases h2 : hi < n
    · go_enter Try.func113, Try.ntmps113
      go_wp2_with (go_at_call 123; refine (unless_any _ _ _).mono ?_; rintro e w' ⟨rfl, rfl⟩)
      go_ret
      (try simp_all [eN, uE])
      (try omega)
    · go_enter Try.func113, Try.ntmps113
      go_wp2_with (go_at_call 123; refine (unless_any _ _ _).mono ?_; rintro e w' ⟨rfl, rfl⟩)
      go_ret
      (try simp_all [eN, uE])
      (try omega)

theorem order_any (b : Bool) (w : World) :
    Calls Try.prog 114 #[.bool b] w fun e w' => e = .returned (.int .i64 (eO b)) ∧ w = w' := by
  go_enter Try.func114, Try.ntmps114
  go_wp2_with (go_at_call 123; refine (unless_any _ _ _).mono ?_; rintro e w' ⟨rfl, rfl⟩)
  go_ret
  exact ⟨rfl, rfl⟩

def eSm (n : Int) : Int := if n < 1 then 6 else 0
def eLs (n m : Int) : Int := if n < m then 6 else 0
theorem leastc_any (n m : Int) (w : World) :
    Calls Try.prog 108 #[.int .i64 n, .int .i64 m] w fun e w' => e = .returned (.int .i64 (eLs n m)) ∧ w = w' := by
  go_enter Try.func108, Try.ntmps108
  go_wp2_with (go_at_call 123; refine (unless_any _ _ _).mono ?_; rintro e w' ⟨rfl, rfl⟩)
  go_ret
  refine ⟨ret_int ?_, rfl⟩
  unfold eLs
  by_cases h : m ≤ n
  · rw [if_neg (by omega : ¬ n < m)]; simp [uE, h]
  · rw [if_pos (by omega : n < m)]; simp [uE, h]

theorem some_any (n : Int) (w : World) :
    Calls Try.prog 140 #[.int .i64 n] w fun e w' => e = .returned (.int .i64 (eSm n)) ∧ w = w' := by
  go_enter Try.func140, Try.ntmps140
  go_wp2_with (go_at_call 108; refine (leastc_any _ _ _).mono ?_; rintro e w' ⟨rfl, rfl⟩)
  go_ret
  exact ⟨ret_int rfl, rfl⟩

theorem most_any (n m : Int) (w : World) :
    Calls Try.prog 109 #[.int .i64 n, .int .i64 m] w fun e w' => e = .returned (.int .i64 (eM n m)) ∧ w = w' := by
  go_enter Try.func109, Try.ntmps109
  go_wp2_with (go_at_call 123; refine (unless_any _ _ _).mono ?_; rintro e w' ⟨rfl, rfl⟩)
  go_ret
  refine ⟨ret_int ?_, rfl⟩
  unfold eM
  by_cases h : n ≤ m
  · rw [if_neg (by omega : ¬ m < n)]; simp [uE, h]
  · rw [if_pos (by omega : m < n)]; simp [uE, h]

def eI (n m : Int) : Int := if n < 0 ∨ m ≤ n then 7 else 0
theorem index_any (n m : Int) (w : World) :
    Calls Try.prog 158 #[.int .i64 n, .int .i64 m] w fun e w' => e = .returned (.int .i64 (eI n m)) ∧ w = w' := by
  by_cases h1 : n < 0
  · go_enter Try.func158, Try.ntmps158
    go_wp2_with (go_at_call 123; refine (unless_any _ _ _).mono ?_; rintro e w' ⟨rfl, rfl⟩)
    go_ret
    (try simp_all [eI, uE])
    (try omega)
  · by_cases h2 : m ≤ n
    · go_enter Try.func158, Try.ntmps158
      go_wp2_with (go_at_call 123; refine (unless_any _ _ _).mono ?_; rintro e w' ⟨rfl, rfl⟩)
      go_ret
      (try simp_all [eI, uE])
      (try omega)
    · go_enter Try.func158, Try.ntmps158
      go_wp2_with (go_at_call 123; refine (unless_any _ _ _).mono ?_; rintro e w' ⟨rfl, rfl⟩)
      go_ret
      (try simp_all [eI, uE])
      (try omega)
def eF (b : Bool) : Int := if b then 0 else 3
theorem form_any (b : Bool) (w : World) :
    Calls Try.prog 110 #[.bool b] w fun e w' => e = .returned (.int .i64 (eF b)) ∧ w = w' := by
  go_enter Try.func110, Try.ntmps110
  go_wp2_with (go_at_call 123; refine (unless_any _ _ _).mono ?_; rintro e w' ⟨rfl, rfl⟩)
  go_ret
  exact ⟨rfl, rfl⟩

theorem first_two (b cap : Nat) (x0 x1 : Int) (w : World) (h0 : w.cell? ⟨b, 0, none⟩ = some (.int .i64 x0)) (h1 : w.cell? ⟨b, 1, none⟩ = some (.int .i64 x1)) :
    Calls Try.prog 77 #[.slice (some ⟨b, 0, none⟩) 2 cap] w fun e w' => e = .returned (.int .i64 (orE x0 x1)) ∧ w = w' := by
  refine (first_any b 0 cap 2 (fun i => if i = 0 then x0 else x1) w (by decide) ?_).mono ?_
  · intro i hi
    match i, hi with
    | 0, _ => simpa using h0
    | 1, _ => simpa using h1
  · rintro e w' ⟨rfl, rfl⟩
    refine ⟨ret_int ?_, rfl⟩
    simp only [firstNZ]
    simp only [orE]
    by_cases a : x0 = 0 <;> by_cases b : x1 = 0 <;> simp [a, b]

theorem first_three (b cap : Nat) (x0 x1 x2 : Int) (w : World) (h0 : w.cell? ⟨b, 0, none⟩ = some (.int .i64 x0)) (h1 : w.cell? ⟨b, 1, none⟩ = some (.int .i64 x1)) (h2 : w.cell? ⟨b, 2, none⟩ = some (.int .i64 x2)) :
    Calls Try.prog 77 #[.slice (some ⟨b, 0, none⟩) 3 cap] w fun e w' => e = .returned (.int .i64 (orE x0 (orE x1 x2))) ∧ w = w' := by
  refine (first_any b 0 cap 3 (fun i => if i = 0 then x0 else if i = 1 then x1 else x2) w (by decide) ?_).mono ?_
  · intro i hi
    match i, hi with
    | 0, _ => simpa using h0
    | 1, _ => simpa using h1
    | 2, _ => simpa using h2
  · rintro e w' ⟨rfl, rfl⟩
    refine ⟨ret_int ?_, rfl⟩
    simp only [firstNZ]
    simp only [orE]
    by_cases a : x0 = 0 <;> by_cases b : x1 = 0 <;> by_cases c : x2 = 0 <;> simp [a, b, c]
theorem first_four (b cap : Nat) (x0 x1 x2 x3 : Int) (w : World) (h0 : w.cell? ⟨b, 0, none⟩ = some (.int .i64 x0)) (h1 : w.cell? ⟨b, 1, none⟩ = some (.int .i64 x1)) (h2 : w.cell? ⟨b, 2, none⟩ = some (.int .i64 x2)) (h3 : w.cell? ⟨b, 3, none⟩ = some (.int .i64 x3)) :
    Calls Try.prog 77 #[.slice (some ⟨b, 0, none⟩) 4 cap] w fun e w' => e = .returned (.int .i64 (orE x0 (orE x1 (orE x2 x3)))) ∧ w = w' := by
  refine (first_any b 0 cap 4 (fun i => if i = 0 then x0 else if i = 1 then x1 else if i = 2 then x2 else x3) w (by decide) ?_).mono ?_
  · intro i hi
    match i, hi with
    | 0, _ => simpa using h0
    | 1, _ => simpa using h1
    | 2, _ => simpa using h2
    | 3, _ => simpa using h3
  · rintro e w' ⟨rfl, rfl⟩
    refine ⟨ret_int ?_, rfl⟩
    simp only [firstNZ]
    simp only [orE]
    by_cases a : x0 = 0 <;> by_cases b : x1 = 0 <;> by_cases c : x2 = 0 <;> by_cases d : x3 = 0 <;> simp [a, b, c, d]

def eK (k m : Int) : Int := if k < 1 ∨ m < k then 4 else 0
def eC (b : Bool) : Int := if b then 0 else 12
def eX (b : Bool) : Int := if b then 0 else 9
theorem kind_any (k m : Int) (w : World) :
    Calls Try.prog 157 #[.int .i64 k, .int .i64 m] w fun e w' => e = .returned (.int .i64 (eK k m)) ∧ w = w' := by
  by_cases h1 : k < 1
  · have h1' : ¬ 1 ≤ k := by omega
    go_enter Try.func157, Try.ntmps157
    go_wp2_with (go_at_call 123; refine (unless_any _ _ _).mono ?_; rintro e w' ⟨rfl, rfl⟩)
    go_ret
    (try simp_all [eK, uE])
    (try omega)
  · have h1' : 1 ≤ k := by omega
    by_cases h2 : m < k
    · go_enter Try.func157, Try.ntmps157
      go_wp2_with (go_at_call 123; refine (unless_any _ _ _).mono ?_; rintro e w' ⟨rfl, rfl⟩)
      go_ret
      (try simp_all [eK, uE])
      (try omega)
    · go_enter Try.func157, Try.ntmps157
      go_wp2_with (go_at_call 123; refine (unless_any _ _ _).mono ?_; rintro e w' ⟨rfl, rfl⟩)
      go_ret
      (try simp_all [eK, uE])
      (try omega)
theorem clash_any (b : Bool) (w : World) :
    Calls Try.prog 85 #[.bool b] w fun e w' => e = .returned (.int .i64 (eC b)) ∧ w = w' := by
  go_enter Try.func85, Try.ntmps85
  go_wp2_with (go_at_call 123; refine (unless_any _ _ _).mono ?_; rintro e w' ⟨rfl, rfl⟩)
  go_ret
  exact ⟨rfl, rfl⟩
theorem newc_any (b : Bool) (w : World) :
    Calls Try.prog 156 #[.bool b] w fun e w' => e = .returned (.int .i64 (eX b)) ∧ w = w' := by
  go_enter Try.func156, Try.ntmps156
  go_wp2_with (go_at_call 123; refine (unless_any _ _ _).mono ?_; rintro e w' ⟨rfl, rfl⟩)
  go_ret
  exact ⟨rfl, rfl⟩
theorem first_five (b cap : Nat) (x0 x1 x2 x3 x4 : Int) (w : World) (h0 : w.cell? ⟨b, 0, none⟩ = some (.int .i64 x0)) (h1 : w.cell? ⟨b, 1, none⟩ = some (.int .i64 x1)) (h2 : w.cell? ⟨b, 2, none⟩ = some (.int .i64 x2)) (h3 : w.cell? ⟨b, 3, none⟩ = some (.int .i64 x3)) (h4 : w.cell? ⟨b, 4, none⟩ = some (.int .i64 x4)) :
    Calls Try.prog 77 #[.slice (some ⟨b, 0, none⟩) 5 cap] w fun e w' => e = .returned (.int .i64 (orE x0 (orE x1 (orE x2 (orE x3 x4))))) ∧ w = w' := by
  refine (first_any b 0 cap 5 (fun i => if i = 0 then x0 else if i = 1 then x1 else if i = 2 then x2 else if i = 3 then x3 else x4) w (by decide) ?_).mono ?_
  · intro i hi
    match i, hi with
    | 0, _ => simpa using h0
    | 1, _ => simpa using h1
    | 2, _ => simpa using h2
    | 3, _ => simpa using h3
    | 4, _ => simpa using h4
  · rintro e w' ⟨rfl, rfl⟩
    refine ⟨ret_int ?_, rfl⟩
    simp only [firstNZ]
    simp only [orE]
    by_cases a : x0 = 0 <;> by_cases b : x1 = 0 <;> by_cases c : x2 = 0 <;> by_cases d : x3 = 0 <;> by_cases e : x4 = 0 <;> simp [a, b, c, d, e]

set_option maxHeartbeats 800000 in
theorem range_any (lo hi a b : Int) (w : World) :
    Calls Try.prog 115 #[.agg #[.int .i64 lo, .int .i64 hi], .int .i64 a, .int .i64 b] w fun e w' => e = .returned (.int .i64 (orE (eN lo a b) (eN hi a b))) ∧ Below w.heap.size w w' := by
  go_enter Try.func115, Try.ntmps115
  go_wp2_with fail
  go_region_held3 (fun w' => w'.cell? ⟨w.heap.size, 0, none⟩ = some (.int .i64 lo) ∧ w'.cell? ⟨w.heap.size, 1, none⟩ = some (.int .i64 hi) ∧ Below w.heap.size w w')
    ((go_split_ands; refine ⟨?_, ?_, ?_⟩ <;> (first | assumption | (go_simp; done) | (go_keep; done) | (refine cell_later hb ?_; first | assumption | (go_keep; done)) | (refine bwS ?_ ?_ hb; (first | assumption | ((repeat (first | exact Below.refl _ _ | assumption | refine Below.drew ?_ | refine Below.drewN ?_ _ | refine blT ?_ | refine blU ?_)); done)); (first | exact Nat.le_refl _ | (simp; done) | (simp; omega))) | ((repeat (first | exact Below.refl _ _ | assumption | refine Below.drew ?_ | refine Below.drewN ?_ _ | refine blT ?_ | refine blU ?_)); done))))
    (first | (go_at_call 113; refine (number_any _ _ _ _).mono ?_; rintro e w' ⟨rfl, rfl⟩) | (go_at_call 77; refine (first_two _ _ (eN lo a b) (eN hi a b) _ ?_ ?_).mono ?_; simp; simp; rintro e w' ⟨rfl, rfl⟩))
  go_wp2
  go_ret
  exact ⟨rfl, by (go_split_ands; first | assumption | (repeat (first | exact Below.refl _ _ | assumption | refine Below.drew ?_ | refine Below.drewN ?_ _ | refine blT ?_ | refine blU ?_)))⟩

def eR (lo hi a b : Int) : Int := orE (eN lo a b) (eN hi a b)
def eS (lo hi a b : Int) : Int := orE (eR lo hi a b) (eO (decide (lo ≤ hi)))

set_option maxHeartbeats 800000 in
theorem span_any (lo hi a b : Int) (w : World) :
    Calls Try.prog 70 #[.agg #[.int .i64 lo, .int .i64 hi], .int .i64 a, .int .i64 b] w fun e w' => e = .returned (.int .i64 (eS lo hi a b)) ∧ Below w.heap.size w w' := by
  have hR : ∀ W, Calls Try.prog 115 #[.agg #[.int .i64 lo, .int .i64 hi], .int .i64 a, .int .i64 b] W fun e w' => e = .returned (.int .i64 (eR lo hi a b)) ∧ Below W.heap.size W w' := fun W => range_any lo hi a b W
  have HR : Hid _ := hR
  clear hR
  go_enter Try.func70, Try.ntmps70
  go_wp2_with fail
  go_region_held3 (fun w' => w'.cell? ⟨w.heap.size, 0, none⟩ = some (.int .i64 lo) ∧ w'.cell? ⟨w.heap.size, 1, none⟩ = some (.int .i64 hi) ∧ Below w.heap.size w w')
    ((go_split_ands; refine ⟨?_, ?_, ?_⟩ <;> (first | assumption | (go_simp; done) | (go_keep; done) | (refine cell_later hb ?_; first | assumption | (go_keep; done)) | (refine bwS ?_ ?_ hb; (first | assumption | ((repeat (first | exact Below.refl _ _ | assumption | refine Below.drew ?_ | refine Below.drewN ?_ _ | refine blT ?_ | refine blU ?_)); done)); (first | exact Nat.le_refl _ | (simp; done) | (simp; omega))) | ((repeat (first | exact Below.refl _ _ | assumption | refine Below.drew ?_ | refine Below.drewN ?_ _ | refine blT ?_ | refine blU ?_)); done))))
    (first | (go_at_call 115; refine (HR.out _).mono ?_; rintro e w' ⟨rfl, hb⟩) | (go_at_call 114; refine (order_any _ _).mono ?_; rintro e w' ⟨rfl, rfl⟩) | (go_at_call 77; refine (first_two _ _ (eR lo hi a b) (eO (decide (lo ≤ hi))) _ ?_ ?_).mono ?_; simp; simp; rintro e w' ⟨rfl, rfl⟩))
  go_wp2
  go_ret
  exact ⟨rfl, by (go_split_ands; first | assumption | (repeat (first | exact Below.refl _ _ | assumption | refine Below.drew ?_ | refine Below.drewN ?_ _ | refine blT ?_ | refine blU ?_)))⟩

end Go.Proofs.Ytpeogfcfiabcfaa

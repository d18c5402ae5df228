/-
  place and burned (package sastrugiref06).
-/
import Derived.Test.YtegdflikeoiaaaaRbu
set_option linter.unusedVariables false
set_option linter.unusedSimpArgs false
namespace Go.Proofs.Ytegdflikeoiaaaa
open Go.RowKit

structure Plc (n : Nat) (U : Nat → Bu) (t : Int) (p : Nat) : Prop where
  lt : p < n
  at_ : p = 0 ∨ (U p).co ≤ t
  no : ∀ i, p < i → i < n → t < (U i).co
set_option maxRecDepth 100000 in
set_option maxHeartbeats 1000000 in
theorem place_any (n : Nat) (U : Nat → Bu) (t : Int) (b o cap : Nat) (h0 : 0 < n) (hn : n ≤ 1000000) (w : World) (hA : AtC w b o n 3 (buC U)) :
    Calls Try.prog 144 #[.slice (some ⟨b, o, none⟩) n cap, .int .i64 t] w fun e w' => ∃ p : Nat, e = .returned (.int .i64 p) ∧ Plc n U t p ∧ Below w.heap.size w w' := by
  have HA := Lib.hid hA
  clear hA
  go_enter Try.func144, Try.ntmps144
  go_wp2_with fail
  go_loopw [5, 6] (fun x i wr => ∃ p k : Nat, x = .int .i64 p ∧ i = .int .i64 k ∧ p < k ∧ k ≤ n ∧ (p = 0 ∨ (U p).co ≤ t) ∧ (∀ j, p < j → j < k → t < (U j).co) ∧ Below w.heap.size w wr) (fun _ i _ => n - (intOf i).toNat)
  case atStart => exact ⟨0, 1, rfl, rfl, by omega, by omega, Or.inl rfl, fun j h1 h2 => by omega, Below.refl _ _⟩
  case round =>
    obtain ⟨p, k, rfl, rfl, hpk, hk, hat, hno, hB⟩ := hrel
    have HQ := Lib.hid (And.intro hat hno)
    clear hat hno
    by_cases hlt : k < n
    · obtain ⟨a0, -, -⟩ := HA.out.c3 hlt rfl
      have zb := World.block_lt_of_cell? _ _ a0
      obtain ⟨x, hx⟩ : ∃ x, (U k).co = x := ⟨_, rfl⟩
      rw [hx] at a0
      have HX := Lib.hid hx
      clear hx
      replace a0 := cell_later hB a0
      have hltI : (k : Int) < n := by omega
      by_cases hle : x ≤ t
      · have HR := Lib.hid (show ((k = 0 ∨ (U k).co ≤ t) ∧ ∀ j, k < j → j < k + 1 → t < (U j).co) from ⟨Or.inr (by rw [HX.out]; exact hle), fun j h1 h2 => by omega⟩)
        go_wp2
        go_roundw
        case rel => exact ⟨k, k + 1, rfl, by go_num, by omega, by omega, HR.out.1, HR.out.2, hB⟩
        case measure => simp [intOf]; omega
      · have HR := Lib.hid (show (∀ j, p < j → j < k + 1 → t < (U j).co) from fun j h1 h2 => by
          by_cases e : j = k
          · rw [e, HX.out]; omega
          · exact HQ.out.2 j h1 (by omega))
        go_wp2
        go_roundw
        case rel => exact ⟨p, k + 1, rfl, by go_num, by omega, by omega, HQ.out.1, HR.out, hB⟩
        case measure => simp [intOf]; omega
    · obtain rfl : k = n := by omega
      go_wp2
      go_ret
      exact ⟨p, rfl, ⟨hpk, HQ.out.1, HQ.out.2⟩, hB⟩

theorem sorted_lt {n : Nat} {U : Nat → Bu} (hs : ∀ i, i + 1 < n → (U i).co < (U (i + 1)).co) : ∀ d i, i + d + 1 < n → (U i).co < (U (i + d + 1)).co
  | 0, i, h => hs i h
  | d + 1, i, h => Int.lt_trans (sorted_lt hs d i (by omega)) (hs (i + d + 1) h)
theorem Plc.iff {n : Nat} {U : Nat → Bu} {t : Int} {p : Nat} (h : Plc n U t p) (hs : ∀ i, i + 1 < n → (U i).co < (U (i + 1)).co) {i : Nat} (h0 : 0 < i) (hi : i < n) : (U i).co ≤ t ↔ i ≤ p := by
  constructor
  · intro hle
    by_cases e : i ≤ p
    · exact e
    · have := h.no i (by omega) hi; omega
  · intro hip
    rcases h.at_ with e | e
    · omega
    · by_cases e2 : i = p
      · rw [e2]; exact e
      · have := sorted_lt hs (p - i - 1) i (by have := h.lt; omega)
        rw [show i + (p - i - 1) + 1 = p by omega] at this
        omega
theorem Plc.on {n : Nat} {U : Nat → Bu} {c0 c1 : Int} {p q : Nat} (hp : Plc n U c0 p) (hq : Plc n U c1 q) (hs : ∀ i, i + 1 < n → (U i).co < (U (i + 1)).co) (h0 : c0 ≤ 1000) (h1 : -1000 ≤ c1) {k : Nat} (hk : k < n) : bnOn U n c0 c1 k = true ↔ p ≤ k ∧ k ≤ q := by
  unfold bnOn
  rw [Bool.and_eq_true, decide_eq_true_iff, decide_eq_true_iff]
  have a : frm U k ≤ c1 ↔ k ≤ q := by
    unfold frm
    by_cases e : 0 < k
    · rw [if_pos e]; exact hq.iff hs e hk
    · rw [if_neg e]; exact ⟨fun _ => by omega, fun _ => h1⟩
  have b : c0 ≤ too U n k ↔ p ≤ k := by
    unfold too
    by_cases e : k + 1 < n
    · rw [if_pos e]
      have := hp.iff hs (i := k + 1) (by omega) e
      constructor
      · intro h
        by_cases g : p ≤ k
        · exact g
        · have := this.2 (by omega); omega
      · intro h
        by_cases g : (U (k + 1)).co ≤ c0
        · have := this.1 g; omega
        · omega
    · rw [if_neg e]; exact ⟨fun _ => by have := hp.lt; omega, fun _ => h0⟩
  rw [a, b]
  exact And.comm
def mnF (U : Nat → Bu) (p : Nat) : Nat → Int
  | 0 => (U p).lo
  | d + 1 => min (mnF U p d) (U (p + d + 1)).lo
def mxF (U : Nat → Bu) (p : Nat) : Nat → Int
  | 0 => (U p).hi
  | d + 1 => max (mxF U p d) (U (p + d + 1)).hi
theorem bn_low {n : Nat} {U : Nat → Bu} {c0 c1 : Int} {p q : Nat} (hon : ∀ k, k < n → (bnOn U n c0 c1 k = true ↔ p ≤ k ∧ k ≤ q)) : ∀ k, k ≤ n → k ≤ p → bnA U n c0 c1 k = 1000000000 ∧ bnB U n c0 c1 k = 0
  | 0, _, _ => ⟨rfl, rfl⟩
  | k + 1, hk, hp => by
    have h := bn_low hon k (by omega) (by omega)
    have e : ¬ bnOn U n c0 c1 k = true := fun g => by have := (hon k (by omega)).1 g; omega
    constructor
    · unfold bnA; rw [if_neg e]; exact h.1
    · unfold bnB; rw [if_neg e]; exact h.2
theorem bn_mid {n : Nat} {U : Nat → Bu} {c0 c1 : Int} {p q : Nat} (hU : BuOk n U) (hq : q < n) (hon : ∀ k, k < n → (bnOn U n c0 c1 k = true ↔ p ≤ k ∧ k ≤ q)) : ∀ d, p + d ≤ q → bnA U n c0 c1 (p + d + 1) = mnF U p d ∧ bnB U n c0 c1 (p + d + 1) = mxF U p d
  | 0, h => by
    have e : bnOn U n c0 c1 p = true := (hon p (by omega)).2 ⟨Nat.le_refl _, by omega⟩
    have l := bn_low hon p (by omega) (Nat.le_refl _)
    have u := hU p (by omega)
    constructor
    · show (if bnOn U n c0 c1 p = true then min (bnA U n c0 c1 p) (U p).lo else bnA U n c0 c1 p) = (U p).lo
      rw [if_pos e, l.1]; omega
    · show (if bnOn U n c0 c1 p = true then max (bnB U n c0 c1 p) (U p).hi else bnB U n c0 c1 p) = (U p).hi
      rw [if_pos e, l.2]; omega
  | d + 1, h => by
    have i := bn_mid hU hq hon d (by omega)
    have e : bnOn U n c0 c1 (p + d + 1) = true := (hon (p + d + 1) (by omega)).2 ⟨by omega, by omega⟩
    constructor
    · show (if bnOn U n c0 c1 (p + d + 1) = true then min (bnA U n c0 c1 (p + d + 1)) (U (p + d + 1)).lo else bnA U n c0 c1 (p + d + 1)) = _
      rw [if_pos e, i.1]; rfl
    · show (if bnOn U n c0 c1 (p + d + 1) = true then max (bnB U n c0 c1 (p + d + 1)) (U (p + d + 1)).hi else bnB U n c0 c1 (p + d + 1)) = _
      rw [if_pos e, i.2]; rfl
theorem bn_hi {n : Nat} {U : Nat → Bu} {c0 c1 : Int} {p q : Nat} (hon : ∀ k, k < n → (bnOn U n c0 c1 k = true ↔ p ≤ k ∧ k ≤ q)) : ∀ d, q + 1 + d ≤ n → bnA U n c0 c1 (q + 1 + d) = bnA U n c0 c1 (q + 1) ∧ bnB U n c0 c1 (q + 1 + d) = bnB U n c0 c1 (q + 1)
  | 0, _ => ⟨rfl, rfl⟩
  | d + 1, h => by
    have i := bn_hi hon d (by omega)
    have e : ¬ bnOn U n c0 c1 (q + 1 + d) = true := fun g => by have := (hon (q + 1 + d) (by omega)).1 g; omega
    constructor
    · show (if bnOn U n c0 c1 (q + 1 + d) = true then _ else bnA U n c0 c1 (q + 1 + d)) = _
      rw [if_neg e]; exact i.1
    · show (if bnOn U n c0 c1 (q + 1 + d) = true then _ else bnB U n c0 c1 (q + 1 + d)) = _
      rw [if_neg e]; exact i.2
theorem bn_all {n : Nat} {U : Nat → Bu} {c0 c1 : Int} {p q : Nat} (hU : BuOk n U) (hs : ∀ i, i + 1 < n → (U i).co < (U (i + 1)).co) (h0 : c0 ≤ 1000) (h1 : -1000 ≤ c1) (h2 : c0 ≤ c1) (hp : Plc n U c0 p) (hq : Plc n U c1 q) : p ≤ q ∧ bnA U n c0 c1 n = mnF U p (q - p) ∧ bnB U n c0 c1 n = mxF U p (q - p) := by
  have hpq : p ≤ q := by
    rcases hp.at_ with e | e
    · omega
    · by_cases e0 : p = 0
      · omega
      · exact (hq.iff hs (by omega) hp.lt).1 (by omega)
  have hon := fun k (hk : k < n) => Plc.on hp hq hs h0 h1 hk
  have hqn := hq.lt
  have a := bn_hi hon (n - (q + 1)) (by omega)
  rw [show q + 1 + (n - (q + 1)) = n by omega] at a
  have b := bn_mid hU hqn hon (q - p) (by omega)
  rw [show p + (q - p) + 1 = q + 1 by omega] at b
  exact ⟨hpq, a.1.trans b.1, a.2.trans b.2⟩
end Go.Proofs.Ytegdflikeoiaaaa

/-
  The example law, ice and day as records, and what is known after 1, 2 and 3 such days.
-/
import Derived.Test.YtoobgjigfmnnaaaAwk2
set_option linter.unusedVariables false
set_option linter.unusedSimpArgs false
namespace Go.Proofs.Ytoobgjigfmnnaaa
def exL : Lw := ⟨100, 10, 2, fun i => cond (i == 0) 0 100, fun i => cond (i == 0) 1000000 400000, fun i => cond (i == 0) 1000000 500000, 100000, 200000, 300000, 500000, 600000⟩
def exD : Dy := ⟨160, 160, 0, 0, 0, false⟩
def exX : Nat → Ic
  | 0 => ⟨300, 300, 0, 0, 0, 0, 0, 0⟩
  | k + 1 => coldI exL (openI exL (exX k) exD) 160 160
theorem rtI_is (n r : Nat) (h1 : r * r ≤ n) (h2 : n < (r + 1) * (r + 1)) : rtI n = r := by
  unfold rtI
  rw [Int.toNat_natCast, rt_unique h1 h2]
theorem q1 : rtI 106000 = 325 := rtI_is 106000 325 (by decide) (by decide)
theorem q2 : rtI 121625 = 348 := rtI_is 121625 348 (by decide) (by decide)
theorem q3 : rtI 122276 = 349 := rtI_is 122276 349 (by decide) (by decide)
theorem q4 : rtI 137104 = 370 := rtI_is 137104 370 (by decide) (by decide)
theorem q5 : rtI 138500 = 372 := rtI_is 138500 372 (by decide) (by decide)
theorem m016 : min (0 : Int) 16 = 0 := by decide
theorem exX1 : exX 1 = ⟨325, 326, 0, 0, 0, 0, 0, 0⟩ := by
  simp [exX, coldI, openI, grownP, wetP, leftP, snowP, lastP, gotL, gotH, exL, exD, rfI, q1, m016]
theorem exX2 : exX 2 = ⟨348, 350, 0, 0, 0, 0, 0, 0⟩ := by
  unfold exX
  rw [exX1]
  simp [coldI, openI, grownP, wetP, leftP, snowP, lastP, gotL, gotH, exL, exD, rfI, q2, q3, m016]
theorem exX3 : exX 3 = ⟨370, 373, 0, 0, 0, 0, 0, 0⟩ := by
  unfold exX
  rw [exX2]
  simp [coldI, openI, grownP, wetP, leftP, snowP, lastP, gotL, gotH, exL, exD, rfI, q4, q5, m016]
theorem exL_ok : exL.Ok := by
  constructor <;> simp [exL]
  · intro i hi; match i, hi with | 0, _ => decide | 1, _ => decide
  · intro i hi; match i, hi with | 0, _ => decide | 1, _ => decide
theorem exD_ok : exD.Ok := by constructor <;> decide
theorem exX_in (k : Nat) (h : k < 3) : (exX k).In 400000000 := by
  match k, h with
  | 0, _ => constructor <;> decide
  | 1, _ => rw [exX1]; constructor <;> decide
  | 2, _ => rw [exX2]; constructor <;> decide
theorem exX_fit (k : Nat) (h : k < 3) : (exX (k + 1)).Fit := by
  match k, h with
  | 0, _ => rw [exX1]; constructor <;> decide
  | 1, _ => rw [exX2]; constructor <;> decide
  | 2, _ => rw [exX3]; constructor <;> decide
theorem ex_sure : firstI (fun i => rdyS 350 500000 (exX (i + 1))) 0 3 = 3 := by
  have a := exX1; have b := exX2; have c := exX3
  simp [firstI, rdyS, soundI, bearL, gotL, a, b, c]
theorem ex_may : firstI (fun i => rdyP 350 600000 (exX (i + 1))) 0 3 = 2 := by
  have a := exX1; have b := exX2; have c := exX3
  simp [firstI, rdyP, soundI, bearH, gotH, a, b, c]
theorem ex_law : eLaw 100 10 2 exL.D exL.P0 exL.P1 100000 200000 300000 500000 600000 = 0 := by decide +kernel
theorem ex_ice : eIce 300 300 0 0 0 0 0 0 = 0 := by decide +kernel
theorem ex_days (n : Nat) (h : n ≤ 3) : eDs n (fun _ => exD) = 0 := by
  match n, h with
  | 0, _ => decide +kernel
  | 1, _ => decide +kernel
  | 2, _ => decide +kernel
  | 3, _ => decide +kernel
end Go.Proofs.Ytoobgjigfmnnaaa

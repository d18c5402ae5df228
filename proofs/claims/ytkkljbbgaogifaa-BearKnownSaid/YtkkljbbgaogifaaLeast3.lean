/-
  bear.Need and Stands, whatever comes in, by the first number that is so.
-/
import Derived.Test.YtkkljbbgaogifaaLeast2
import Derived.Test.YtkkljbbgaogifaaNumV
set_option linter.unusedVariables false
set_option linter.unusedSimpArgs false
namespace Go.Proofs.Ytkkljbbgaogifaa
open Go.RowKit

def needR (p : Pl) (wt mi : Int) : Int := if e3 p (eN wt 0 200000) (eN mi 0 10000) = 0 then if lstV (needF p wt mi) 5001 ≤ 5000 then (lstV (needF p wt mi) 5001 : Int) else 0 else 0
def needE (p : Pl) (wt mi : Int) : Int := if e3 p (eN wt 0 200000) (eN mi 0 10000) = 0 then if lstV (needF p wt mi) 5001 ≤ 5000 then 0 else 14 else e3 p (eN wt 0 200000) (eN mi 0 10000)
theorem need_full (p : Pl) (vS vC : Value) (wt mi : Int) (w : World) (hS : TabAt w vS p.S) (hC : TabAt w vC p.C) :
    Calls Try.prog 26 #[.agg #[.int .i64 p.s0, .int .i64 p.s1, vS, vC, .int .i64 p.ne, .int .i64 p.ed, .int .i64 p.gr, .int .i64 p.lo, .int .i64 p.hi, .int .i64 p.sh, .int .i64 p.wi], .int .i64 wt, .int .i64 mi] w fun e w' => e = .returned (.tuple #[.int .i64 (needR p wt mi), .int .i64 (needE p wt mi)]) ∧ Below w.heap.size w w' := by
  unfold needR needE
  by_cases h : e3 p (eN wt 0 200000) (eN mi 0 10000) = 0
  · obtain ⟨h1, h2⟩ := orE_inv h
    obtain ⟨h3, h4⟩ := orE_inv h2
    have hp := ePl_inv h1
    rw [if_pos h, if_pos h]
    refine (need_valid p hp vS vC wt mi (eN_inv h3) (eN_inv h4) w hS hC).mono ?_
    rintro e w' ⟨k, hk, hb⟩
    rcases hk with ⟨rfl, k1, k2, k3⟩ | ⟨rfl, k4⟩
    · have e : lstV (needF p wt mi) 5001 = k := lstV_two (need_up hp wt mi) (by omega) (fun _ => by simpa [needF] using k2) (fun j hj => by simpa [needF] using k3 j hj)
      rw [e, if_pos k1, if_pos k1]
      exact ⟨rfl, hb⟩
    · have e : lstV (needF p wt mi) 5001 = 5001 := lstV_eq (Nat.le_refl _) (fun q => absurd q (by omega)) (fun j hj => by
        cases z : needF p wt mi j with
        | false => rfl
        | true =>
          have := need_up hp wt mi j 5000 (by omega) z
          simp only [needF, decide_eq_true_eq] at this
          exact absurd this k4)
      rw [e, if_neg (by omega), if_neg (by omega)]
      exact ⟨rfl, hb⟩
  · rw [if_neg h, if_neg h]
    exact need_err p vS vC wt mi w hS hC h
def standR (p : Pl) (th wt : Int) : Int := if e3 p (eN th 0 5000) (eN wt 0 200000) = 0 then lastV (standF p th wt) 10001 else 0
theorem stands_full (p : Pl) (vS vC : Value) (th wt : Int) (w : World) (hS : TabAt w vS p.S) (hC : TabAt w vC p.C) :
    Calls Try.prog 28 #[.agg #[.int .i64 p.s0, .int .i64 p.s1, vS, vC, .int .i64 p.ne, .int .i64 p.ed, .int .i64 p.gr, .int .i64 p.lo, .int .i64 p.hi, .int .i64 p.sh, .int .i64 p.wi], .int .i64 th, .int .i64 wt] w fun e w' => e = .returned (.tuple #[.int .i64 (standR p th wt), .int .i64 (e3 p (eN th 0 5000) (eN wt 0 200000))]) ∧ Below w.heap.size w w' := by
  unfold standR
  by_cases h : e3 p (eN th 0 5000) (eN wt 0 200000) = 0
  · obtain ⟨h1, h2⟩ := orE_inv h
    obtain ⟨h3, h4⟩ := orE_inv h2
    have hp := ePl_inv h1
    have ht := eN_inv h3
    rw [if_pos h, h]
    refine (stands_valid p hp vS vC th wt ht (eN_inv h4) w hS hC).mono ?_
    rintro e w' ⟨k, rfl, k1, k2, k3, hb⟩
    have e : lstV (fun i => !standF p th wt i) 10001 = k := lstV_two (fun i j hij q => by
      cases z : standF p th wt j with
      | false => rfl
      | true => rw [stand_down hp ht.1 wt i j hij z] at q; simp at q) k1 (fun q => by have := k2 q; simp [standF]; omega) (fun j hj => by have := k3 j hj; simp [standF]; omega)
    rw [lastV_lst (stand_down hp ht.1 wt), e]
    exact ⟨rfl, hb⟩
  · rw [if_neg h]
    exact stands_err p vS vC th wt w hS hC h
end Go.Proofs.Ytkkljbbgaogifaa

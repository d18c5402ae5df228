/-
  Valid ice; what two of it allow: plain facts, and frost.Core there.
-/
import Derived.Test.YtkldjaofgdklbaaCore
set_option linter.unusedVariables false
set_option linter.unusedSimpArgs false
namespace Go.Proofs.Ytkldjaofgdklbaa
open Go.RowKit

theorem coI_comm (x c : Ic) : coI x c = coI c x := by
  unfold coI
  simp only [Int.max_comm, Int.min_comm]
theorem coI_val {x c : Ic} (hx : x.Val) (hc : c.Val) (h : ¬ coT x c) : (coI x c).Val := by
  obtain ⟨h1, h2, h3, h4⟩ := hx
  obtain ⟨g1, g2, g3, g4⟩ := hc
  unfold coT at h
  constructor <;> simp only [coI] <;> omega
theorem coT_comm {x c : Ic} (h : ¬ coT x c) : ¬ coT c x := by
  unfold coT at *
  omega
theorem coT_of {b w q s : Int} {x c : Ic} (hx : TrIn b w q s x) (hc : TrIn b w q s c) : ¬ coT x c := by
  obtain ⟨x1, x2, x3, x4, x5, x6, x7, x8⟩ := hx
  obtain ⟨c1, c2, c3, c4, c5, c6, c7, c8⟩ := hc
  unfold coT
  omega
theorem coI_in {b w q s : Int} {x c : Ic} (hx : TrIn b w q s x) (hc : TrIn b w q s c) : TrIn b w q s (coI x c) := by
  obtain ⟨x1, x2, x3, x4, x5, x6, x7, x8⟩ := hx
  obtain ⟨c1, c2, c3, c4, c5, c6, c7, c8⟩ := hc
  constructor <;> simp only [coI] <;> omega
theorem coI_sub (x c : Ic) : (coI x c).Sub x := by constructor <;> simp only [coI] <;> omega
theorem coI_sub2 (x c : Ic) : (coI x c).Sub c := by constructor <;> simp only [coI] <;> omega
theorem coI_again (x c : Ic) : coI (coI x c) c = coI x c := by
  unfold coI
  simp only [Ic.mk.injEq]
  omega

theorem core_ok (x c y : Ic) (hx : x.Val) (hc : c.Val) (h : ¬ coT x c) (hy : coI x c = y) (w : World) :
    Calls Try.prog 27 #[.agg #[.int .i64 x.b0, .int .i64 x.b1, .int .i64 x.w0, .int .i64 x.w1, .int .i64 x.q0, .int .i64 x.q1, .int .i64 x.s0, .int .i64 x.s1], .agg #[.int .i64 c.b0, .int .i64 c.b1, .int .i64 c.w0, .int .i64 c.w1, .int .i64 c.q0, .int .i64 c.q1, .int .i64 c.s0, .int .i64 c.s1]] w fun e w' => e = .returned (.tuple #[.agg #[.int .i64 y.b0, .int .i64 y.b1, .int .i64 y.w0, .int .i64 y.w1, .int .i64 y.q0, .int .i64 y.q1, .int .i64 y.s0, .int .i64 y.s1], .int .i64 0]) ∧ Below w.heap.size w w' := by
  have hk := co_ok (x := x) (c := c) (by rw [hx.e, hc.e]; rfl) h
  refine (core_any x c w).mono ?_
  rintro e w' ⟨rfl, hb⟩
  refine ⟨?_, hb⟩
  rw [hk.1, hk.2, ← hy]
  rfl
end Go.Proofs.Ytkldjaofgdklbaa

/-
  Step and Ready at the example.
-/
import Derived.Test.YtoobgjigfmnnaaaEx
set_option linter.unusedVariables false
set_option linter.unusedSimpArgs false
namespace Go.Proofs.Ytoobgjigfmnnaaa
open Go.RowKit

abbrev exC : Array Value := #[.int .i64 0, .int .i64 1000000, .int .i64 1000000, .int .i64 100, .int .i64 400000, .int .i64 500000]
abbrev exDC : Array Value := #[.int .i64 160, .int .i64 160, .int .i64 0, .int .i64 0, .int .i64 0, .bool false]
abbrev exDC3 : Array Value := #[.int .i64 160, .int .i64 160, .int .i64 0, .int .i64 0, .int .i64 0, .bool false, .int .i64 160, .int .i64 160, .int .i64 0, .int .i64 0, .int .i64 0, .bool false, .int .i64 160, .int .i64 160, .int .i64 0, .int .i64 0, .int .i64 0, .bool false]

theorem cov_ex {W : World} {c : Nat} (h : Blk W c exC 96) : CovAt W (.slice (some ⟨c, 0, none⟩) 2 2) 2 exL.D exL.P0 exL.P1 :=
  ⟨_, _, rfl, by decide, by decide, fun _ => ⟨c, 0, rfl, fun i hi => match i, hi with
    | 0, _ => ⟨h.cell _ rfl, h.cell _ rfl, h.cell _ rfl⟩
    | 1, _ => ⟨h.cell _ rfl, h.cell _ rfl, h.cell _ rfl⟩⟩⟩
theorem day_ex {W : World} {c : Nat} (h : Blk W c exDC 30) : DaysAt W (.slice (some ⟨c, 0, none⟩) 1 1) 1 (fun _ => exD) :=
  ⟨_, _, rfl, by decide, by decide, fun _ => ⟨c, 0, rfl, fun i hi => match i, hi with
    | 0, _ => ⟨h.cell _ rfl, h.cell _ rfl, h.cell _ rfl, h.cell _ rfl, h.cell _ rfl, h.cell _ rfl⟩⟩⟩
theorem days_cells_ex {W : World} {c : Nat} (h : Blk W c exDC3 30) : ∀ i, i < 3 → W.cell? ⟨c, 0 + i * 6, none⟩ = some (.int .i64 exD.c0) ∧ W.cell? ⟨c, 0 + i * 6 + 1, none⟩ = some (.int .i64 exD.c1) ∧ W.cell? ⟨c, 0 + i * 6 + 2, none⟩ = some (.int .i64 exD.f0) ∧
    W.cell? ⟨c, 0 + i * 6 + 3, none⟩ = some (.int .i64 exD.f1) ∧ W.cell? ⟨c, 0 + i * 6 + 4, none⟩ = some (.int .i64 exD.wa) ∧ W.cell? ⟨c, 0 + i * 6 + 5, none⟩ = some (.bool exD.cl) := fun i hi => match i, hi with
    | 0, _ => ⟨h.cell _ rfl, h.cell _ rfl, h.cell _ rfl, h.cell _ rfl, h.cell _ rfl, h.cell _ rfl⟩
    | 1, _ => ⟨h.cell _ rfl, h.cell _ rfl, h.cell _ rfl, h.cell _ rfl, h.cell _ rfl, h.cell _ rfl⟩
    | 2, _ => ⟨h.cell _ rfl, h.cell _ rfl, h.cell _ rfl, h.cell _ rfl, h.cell _ rfl, h.cell _ rfl⟩
theorem days_ex {W : World} {c : Nat} (h : Blk W c exDC3 30) : DaysAt W (.slice (some ⟨c, 0, none⟩) 3 3) 3 (fun _ => exD) :=
  ⟨_, _, rfl, by decide, by decide, fun _ => ⟨c, 0, rfl, days_cells_ex h⟩⟩

theorem all_ex (c : Nat) (vd : Value) (nd : Nat) (hn : nd ≤ 3) (W : World) (hc : Blk W c exC 96) (hd : DaysAt W vd nd (fun _ => exD)) :
    Calls Try.prog 66 #[.agg #[.int .i64 100, .int .i64 10, (.slice (some ⟨c, 0, none⟩) 2 2), .int .i64 100000, .int .i64 200000, .int .i64 300000, .int .i64 500000, .int .i64 600000], .agg #[.int .i64 300, .int .i64 300, .int .i64 0, .int .i64 0, .int .i64 0, .int .i64 0, .int .i64 0, .int .i64 0], vd] W fun e w' => e = .returned (.int .i64 0) ∧ Below W.heap.size W w' := by
  have h := all_any 100 10 (.slice (some ⟨c, 0, none⟩) 2 2) 2 exL.D exL.P0 exL.P1 100000 200000 300000 500000 600000 300 300 0 0 0 0 0 0 vd nd (fun _ => exD) W (cov_ex hc) hd
  rw [ex_law, ex_ice, ex_days nd hn] at h
  exact h

theorem step_ex (c : Nat) (k : Nat) (h : k < 3) (W : World) (hc : Blk W c exC 96) :
    Calls Try.prog 67 #[.agg #[.int .i64 100, .int .i64 10, (.slice (some ⟨c, 0, none⟩) 2 2), .int .i64 100000, .int .i64 200000, .int .i64 300000, .int .i64 500000, .int .i64 600000], .agg #[.int .i64 (exX k).b0, .int .i64 (exX k).b1, .int .i64 (exX k).w0, .int .i64 (exX k).w1, .int .i64 (exX k).q0, .int .i64 (exX k).q1, .int .i64 (exX k).s0, .int .i64 (exX k).s1], .agg #[.int .i64 160, .int .i64 160, .int .i64 0, .int .i64 0, .int .i64 0, .bool false]] W
      fun e w' => e = .returned (.agg #[.int .i64 (exX (k + 1)).b0, .int .i64 (exX (k + 1)).b1, .int .i64 (exX (k + 1)).w0, .int .i64 (exX (k + 1)).w1, .int .i64 (exX (k + 1)).q0, .int .i64 (exX (k + 1)).q1, .int .i64 (exX (k + 1)).s0, .int .i64 (exX (k + 1)).s1]) ∧ Below W.heap.size W w' :=
  step_cold exL (exX k) exD _ _ W (cov_ex hc) exL_ok (exX_in k h) exD_ok (by decide) (exX (k + 1)) rfl

theorem Step_ex (c : Nat) (w : World) (hc : Blk w c exC 96) :
    Calls Try.prog 19 #[.agg #[.int .i64 100, .int .i64 10, (.slice (some ⟨c, 0, none⟩) 2 2), .int .i64 100000, .int .i64 200000, .int .i64 300000, .int .i64 500000, .int .i64 600000], .agg #[.int .i64 300, .int .i64 300, .int .i64 0, .int .i64 0, .int .i64 0, .int .i64 0, .int .i64 0, .int .i64 0], .agg #[.int .i64 160, .int .i64 160, .int .i64 0, .int .i64 0, .int .i64 0, .bool false]] w
      fun e w' => e = .returned (.tuple #[.agg #[.int .i64 325, .int .i64 326, .int .i64 0, .int .i64 0, .int .i64 0, .int .i64 0, .int .i64 0, .int .i64 0], .int .i64 0]) ∧ Below w.heap.size w w' := by
  refine one_ok 100 10 (some ⟨c, 0, none⟩) 2 2 100000 200000 300000 500000 600000 exD ⟨300, 300, 0, 0, 0, 0, 0, 0⟩ ⟨325, 326, 0, 0, 0, 0, 0, 0⟩ w (fun W bd hW kd => all_ex c _ 1 (by decide) W (hc.below hW hc.lt) (day_ex kd)) (fun W hW => ?_)
  have h := step_ex c 0 (by decide) W (hc.below hW hc.lt)
  rw [exX1] at h
  exact h

theorem Ready_ex (c bd : Nat) (w : World) (hc : Blk w c exC 96) (hd : Blk w bd exDC3 30) :
    Calls Try.prog 38 #[.agg #[.int .i64 100, .int .i64 10, (.slice (some ⟨c, 0, none⟩) 2 2), .int .i64 100000, .int .i64 200000, .int .i64 300000, .int .i64 500000, .int .i64 600000], .agg #[.int .i64 300, .int .i64 300, .int .i64 0, .int .i64 0, .int .i64 0, .int .i64 0, .int .i64 0, .int .i64 0], .slice (some ⟨bd, 0, none⟩) 3 3, .int .i64 350] w
      fun e w' => e = .returned (.tuple #[.int .i64 3, .int .i64 2, .int .i64 0]) ∧ Below w.heap.size w w' := by
  have h := ready_ok (some ⟨bd, 0, none⟩) bd 0 3 100 10 (some ⟨c, 0, none⟩) 2 2 100000 200000 300000 500000 600000 350 (fun _ => exD) exX w 3 (by decide) (by decide) (fun _ => rfl) hd.lt (by decide) (by decide) (by decide) (by decide) (by decide) (by decide) exX_fit (days_cells_ex hd)
    (fun W hW => all_ex c _ 3 (by decide) W (hc.below hW hc.lt) (days_ex (hd.below hW hd.lt))) (fun k W hk hW => step_ex c k hk W (hc.below hW hc.lt))
  rw [ex_sure, ex_may] at h
  exact h
end Go.Proofs.Ytoobgjigfmnnaaa

/-
  The chapter's plate, loads; Bears, Speed; awake says yes.
-/
import Derived.Test.YtkkljbbgaogifaaTail
import Derived.Test.YtkkljbbgaogifaaOkB
set_option linter.unusedVariables false
set_option linter.unusedSimpArgs false
namespace Go.Proofs.Ytkkljbbgaogifaa
open Go.RowKit

def F3 (a b c : Int) : Nat → Int := fun i => if i = 0 then a else if i = 1 then b else c
def pl0 : Pl := ⟨40000, 50000, ⟨3, F3 0 20 100, F3 1000000 500000 0⟩, ⟨3, F3 0 60 600, F3 1000000 640000 250000⟩, 5, 500000, 98, 640000, 1440000, 50, 250000⟩
theorem tab3_ok {a b c d e f : Int} (h0 : a = 0) (h1 : d = 1000000) (h : 0 < b ∧ b < c ∧ c ≤ 10000 ∧ 0 ≤ f ∧ f ≤ e ∧ e ≤ 1000000) : Tab.Ok ⟨3, F3 a b c, F3 d e f⟩ := by
  subst h0; subst h1
  refine ⟨(show 1 ≤ 3 by decide), (show 3 ≤ 20 by decide), rfl, rfl, fun i hi => ?_, fun i hi => ?_⟩
  · match i, hi with
    | 0, _ => simp [F3]
    | 1, _ => simp [F3]; omega
    | 2, _ => simp [F3]; omega
  · match i, hi with
    | 0, _ => simp [F3]; omega
    | 1, _ => simp [F3]; omega
theorem pl0_ok : pl0.Ok := ⟨by decide, by decide, by decide, tab3_ok rfl rfl (by decide), tab3_ok rfl rfl (by decide), by decide, by decide, by decide, by decide, by decide, by decide, by decide, by decide, by decide, by decide, by decide, by decide, by decide⟩

theorem kspan_any (a b : Int) (w : World) : Calls Try.prog 50 #[.int .i64 a, .int .i64 b] w fun e w' => e = .returned (.agg #[.int .i64 a, .int .i64 b]) ∧ Below w.heap.size w w' := by
  go_enter Try.func50, Try.ntmps50
  go_wp2
  exact bodyPost_ret (v := .agg #[.int .i64 a, .int .i64 b]) (by simp [results, Try.results50, go_sem]) rfl ⟨rfl, by (go_split_ands; first | assumption | (repeat (first | exact Below.refl _ _ | assumption | refine Below.drew ?_ | refine Below.drewN ?_ _ | refine blT ?_ | refine blU ?_)))⟩
theorem kone_any (a : Int) (w : World) : Calls Try.prog 65 #[.int .i64 a] w fun e w' => e = .returned (.agg #[.int .i64 a, .int .i64 a]) ∧ Below w.heap.size w w' := by
  have jO := Blk.new w #[.int .i64 0, .int .i64 0] 23
  have jB : Below w.heap.size w (w.alloc (.cells #[.int .i64 0, .int .i64 0] 23)) := by (repeat (first | exact Below.refl _ _ | assumption | refine Below.drew ?_ | refine Below.drewN ?_ _ | refine blT ?_ | refine blU ?_))
  go_enter Try.func65, Try.ntmps65
  go_wp2_with fail
  refine (kspan_any _ _ _).mono ?_
  rintro e w1 ⟨rfl, hb⟩
  replace jO := jO.call hb
  replace jB := bwS jB (Nat.le_refl _) hb
  clear hb
  obtain ⟨o0, o1⟩ := jO.c2
  have zO := jO.lt
  have g0 := jO.free 0
  have g1 := jO.free 1
  have HQ := Lib.hid ((jO.set 0 (.int .i64 a)).set 1 (.int .i64 a)).c2
  have HW := Lib.hid (show Below w.heap.size w ((w1.setCell ⟨w.heap.size, 0, none⟩ (.int .i64 a)).setCell ⟨w.heap.size, 1, none⟩ (.int .i64 a)) from (jB.setCell (Nat.le_refl _) _).setCell (Nat.le_refl _) _)
  clear jO jB
  go_wp2
  obtain ⟨z0, z1⟩ := HQ.out
  exact bodyPost_ret (v := .agg #[.int .i64 a, .int .i64 a]) (by simp [results, Try.results65, go_sem, z0, z1]) rfl ⟨rfl, HW.out⟩

theorem pairs3 {W : World} {b : Nat} {t : TypeId} {a c d e f g : Int} (h : Blk W b #[.int .i64 a, .int .i64 d, .int .i64 c, .int .i64 e, .int .i64 f, .int .i64 g] t) : PairsAt W (.slice (some ⟨b, 0, none⟩) 3 3) 3 (F3 a c f) (F3 d e g) := by
  refine ⟨_, 3, rfl, by decide, by decide, fun _ => ⟨b, 0, rfl, fun i hi => ?_⟩⟩
  match i, hi with
  | 0, _ => exact ⟨h.cell 0 rfl, h.cell 1 rfl⟩
  | 1, _ => exact ⟨h.cell 2 rfl, h.cell 3 rfl⟩
  | 2, _ => exact ⟨h.cell 4 rfl, h.cell 5 rfl⟩

set_option maxRecDepth 100000 in
set_option maxHeartbeats 4000000 in
theorem kplate_any (w : World) : Calls Try.prog 49 #[] w fun e w' => ∃ vS vC, e = .returned (.agg #[.int .i64 pl0.s0, .int .i64 pl0.s1, vS, vC, .int .i64 pl0.ne, .int .i64 pl0.ed, .int .i64 pl0.gr, .int .i64 pl0.lo, .int .i64 pl0.hi, .int .i64 pl0.sh, .int .i64 pl0.wi]) ∧ TabAt w' vS pl0.S ∧ TabAt w' vC pl0.C ∧ Below w.heap.size w w' := by
  have jO := Blk.new w #[.int .i64 0, .int .i64 0, .slice none 0 0, .slice none 0 0, .int .i64 0, .int .i64 0, .int .i64 0, .int .i64 0, .int .i64 0, .int .i64 0, .int .i64 0] 26
  have jB : Below w.heap.size w (w.alloc (.cells #[.int .i64 0, .int .i64 0, .slice none 0 0, .slice none 0 0, .int .i64 0, .int .i64 0, .int .i64 0, .int .i64 0, .int .i64 0, .int .i64 0, .int .i64 0] 26)) := by (repeat (first | exact Below.refl _ _ | assumption | refine Below.drew ?_ | refine Below.drewN ?_ _ | refine blT ?_ | refine blU ?_))
  go_enter Try.func49, Try.ntmps49
  go_wp2_with fail
  refine (kspan_any _ _ _).mono ?_
  rintro e w1 ⟨rfl, hb⟩
  replace jO := jO.call hb
  replace jB := bwS jB (Nat.le_refl _) hb
  clear hb
  have zO := jO.lt
  have zO2 : w.heap.size < w1.heap.size + 1 := by omega
  obtain ⟨r0, r1, r2, r3, r4, r5, r6, r7, r8, r9, r10⟩ := jO.c11
  have g0 := jO.free 0
  have g1 := jO.free 1
  have g2 := jO.free 2
  have g3 := jO.free 3
  have g4 := jO.free 4
  have g5 := jO.free 5
  have g6 := jO.free 6
  have g7 := jO.free 7
  have g8 := jO.free 8
  have g9 := jO.free 9
  have g10 := jO.free 10
  have HX := Lib.hid (jO.set11 (.int .i64 40000) (.int .i64 50000) (.slice (some ⟨w1.heap.size, 0, none⟩) 3 3) (.slice (some ⟨w1.heap.size + 1, 0, none⟩) 3 3) (.int .i64 5) (.int .i64 500000) (.int .i64 98) (.int .i64 640000) (.int .i64 1440000) (.int .i64 50) (.int .i64 250000))
  have HW := Lib.hid (show Below w.heap.size w (((((((((((w1.setCell ⟨w.heap.size, 0, none⟩ (.int .i64 40000)).setCell ⟨w.heap.size, 1, none⟩ (.int .i64 50000)).setCell ⟨w.heap.size, 2, none⟩ (.slice (some ⟨w1.heap.size, 0, none⟩) 3 3)).setCell ⟨w.heap.size, 3, none⟩ (.slice (some ⟨w1.heap.size + 1, 0, none⟩) 3 3)).setCell ⟨w.heap.size, 4, none⟩ (.int .i64 5)).setCell ⟨w.heap.size, 5, none⟩ (.int .i64 500000)).setCell ⟨w.heap.size, 6, none⟩ (.int .i64 98)).setCell ⟨w.heap.size, 7, none⟩ (.int .i64 640000)).setCell ⟨w.heap.size, 8, none⟩ (.int .i64 1440000)).setCell ⟨w.heap.size, 9, none⟩ (.int .i64 50)).setCell ⟨w.heap.size, 10, none⟩ (.int .i64 250000)) from ((((((((((jB.setCell (Nat.le_refl _) _).setCell (Nat.le_refl _) _).setCell (Nat.le_refl _) _).setCell (Nat.le_refl _) _).setCell (Nat.le_refl _) _).setCell (Nat.le_refl _) _).setCell (Nat.le_refl _) _).setCell (Nat.le_refl _) _).setCell (Nat.le_refl _) _).setCell (Nat.le_refl _) _).setCell (Nat.le_refl _) _)
  clear jO jB
  go_wp2
  have hX := HX.out
  have hW := HW.out
  clear HX HW
  have hsz : (((((((((((w1.setCell ⟨w.heap.size, 0, none⟩ (.int .i64 40000)).setCell ⟨w.heap.size, 1, none⟩ (.int .i64 50000)).setCell ⟨w.heap.size, 2, none⟩ (.slice (some ⟨w1.heap.size, 0, none⟩) 3 3)).setCell ⟨w.heap.size, 3, none⟩ (.slice (some ⟨w1.heap.size + 1, 0, none⟩) 3 3)).setCell ⟨w.heap.size, 4, none⟩ (.int .i64 5)).setCell ⟨w.heap.size, 5, none⟩ (.int .i64 500000)).setCell ⟨w.heap.size, 6, none⟩ (.int .i64 98)).setCell ⟨w.heap.size, 7, none⟩ (.int .i64 640000)).setCell ⟨w.heap.size, 8, none⟩ (.int .i64 1440000)).setCell ⟨w.heap.size, 9, none⟩ (.int .i64 50)).setCell ⟨w.heap.size, 10, none⟩ (.int .i64 250000)).heap.size = w1.heap.size := by simp
  generalize (((((((((((w1.setCell ⟨w.heap.size, 0, none⟩ (.int .i64 40000)).setCell ⟨w.heap.size, 1, none⟩ (.int .i64 50000)).setCell ⟨w.heap.size, 2, none⟩ (.slice (some ⟨w1.heap.size, 0, none⟩) 3 3)).setCell ⟨w.heap.size, 3, none⟩ (.slice (some ⟨w1.heap.size + 1, 0, none⟩) 3 3)).setCell ⟨w.heap.size, 4, none⟩ (.int .i64 5)).setCell ⟨w.heap.size, 5, none⟩ (.int .i64 500000)).setCell ⟨w.heap.size, 6, none⟩ (.int .i64 98)).setCell ⟨w.heap.size, 7, none⟩ (.int .i64 640000)).setCell ⟨w.heap.size, 8, none⟩ (.int .i64 1440000)).setCell ⟨w.heap.size, 9, none⟩ (.int .i64 50)).setCell ⟨w.heap.size, 10, none⟩ (.int .i64 250000)) = W at hX hW hsz ⊢
  rw [← hsz] at hX ⊢
  have k1 := (Blk.new W #[.int .i64 0, .int .i64 1000000, .int .i64 20, .int .i64 500000, .int .i64 100, .int .i64 0] 68).alloc (.cells #[.int .i64 0, .int .i64 1000000, .int .i64 60, .int .i64 640000, .int .i64 600, .int .i64 250000] 68)
  have k2 := Blk.new1 W (.cells #[.int .i64 0, .int .i64 1000000, .int .i64 20, .int .i64 500000, .int .i64 100, .int .i64 0] 68) #[.int .i64 0, .int .i64 1000000, .int .i64 60, .int .i64 640000, .int .i64 600, .int .i64 250000] 68
  have hR := (hX.alloc (.cells #[.int .i64 0, .int .i64 1000000, .int .i64 20, .int .i64 500000, .int .i64 100, .int .i64 0] 68)).alloc (.cells #[.int .i64 0, .int .i64 1000000, .int .i64 60, .int .i64 640000, .int .i64 600, .int .i64 250000] 68)
  have hV : Below w.heap.size w ((W.alloc (.cells #[.int .i64 0, .int .i64 1000000, .int .i64 20, .int .i64 500000, .int .i64 100, .int .i64 0] 68)).alloc (.cells #[.int .i64 0, .int .i64 1000000, .int .i64 60, .int .i64 640000, .int .i64 600, .int .i64 250000] 68)) := (hW.alloc (Nat.le_trans (by omega) (Nat.le_of_eq hsz.symm)) _).alloc (by simp; omega) _
  generalize (W.alloc (.cells #[.int .i64 0, .int .i64 1000000, .int .i64 20, .int .i64 500000, .int .i64 100, .int .i64 0] 68)).alloc (.cells #[.int .i64 0, .int .i64 1000000, .int .i64 60, .int .i64 640000, .int .i64 600, .int .i64 250000] 68) = V at k1 k2 hR hV ⊢
  obtain ⟨z0, z1, z2, z3, z4, z5, z6, z7, z8, z9, z10⟩ := hR.c11
  exact bodyPost_ret (v := .agg #[.int .i64 pl0.s0, .int .i64 pl0.s1, (.slice (some ⟨W.heap.size, 0, none⟩) 3 3), (.slice (some ⟨W.heap.size + 1, 0, none⟩) 3 3), .int .i64 pl0.ne, .int .i64 pl0.ed, .int .i64 pl0.gr, .int .i64 pl0.lo, .int .i64 pl0.hi, .int .i64 pl0.sh, .int .i64 pl0.wi]) (by simp [results, Try.results49, go_sem, z0, z1, z2, z3, z4, z5, z6, z7, z8, z9, z10, pl0]) rfl ⟨_, _, rfl, pairs3 k1, pairs3 k2, hV⟩
end Go.Proofs.Ytkkljbbgaogifaa

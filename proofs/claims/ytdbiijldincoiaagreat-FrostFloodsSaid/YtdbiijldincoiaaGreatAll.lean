/-
  The contracts of frost.known, CheckIce, Check, checkAll.
-/
import Derived.Test.YtdbiijldincoiaaGreatTail
import Derived.Test.YtdbiijldincoiaaGreatDay
set_option linter.unusedVariables false
set_option linter.unusedSimpArgs false
namespace Go.Proofs.YtdbiijldincoiaaGreat
open Go.RowKit

def iceE (b0 b1 w0 w1 q0 q1 s0 s1 : Int) : Nat → Int
  | 0 => eS b0 b1 0 5000
  | 1 => eS w0 w1 0 5000
  | 2 => eS q0 q1 0 5000
  | _ => eS s0 s1 0 5000
def eIce (b0 b1 w0 w1 q0 q1 s0 s1 : Int) : Int := firstNZ (iceE b0 b1 w0 w1 q0 q1 s0 s1) 0 4

theorem known_any (b0 b1 w0 w1 q0 q1 s0 s1 : Int) (w : World) :
    Calls Tryz.prog 70 #[.agg #[.int .i64 b0, .int .i64 b1, .int .i64 w0, .int .i64 w1, .int .i64 q0, .int .i64 q1, .int .i64 s0, .int .i64 s1]] w fun e w' => e = .returned (.agg #[.int .i64 b0, .int .i64 b1, .int .i64 w0, .int .i64 w1, .int .i64 q0, .int .i64 q1, .int .i64 s0, .int .i64 s1]) ∧ Below w.heap.size w w' := by
  go_enter Tryz.func70, Tryz.ntmps70
  go_wp2
  refine bodyPost_ret (v := .agg #[.int .i64 b0, .int .i64 b1, .int .i64 w0, .int .i64 w1, .int .i64 q0, .int .i64 q1, .int .i64 s0, .int .i64 s1]) (by simp [results, Tryz.results70, go_sem]) rfl ⟨rfl, by (go_split_ands; first | assumption | (repeat (first | exact Below.refl _ _ | assumption | refine Below.drew ?_ | refine Below.drewN ?_ _ | refine blT ?_ | refine blU ?_)))⟩

set_option maxHeartbeats 1000000 in
theorem ice_any (b0 b1 w0 w1 q0 q1 s0 s1 : Int) (w : World) :
    Calls Tryz.prog 44 #[.agg #[.int .i64 b0, .int .i64 b1, .int .i64 w0, .int .i64 w1, .int .i64 q0, .int .i64 q1, .int .i64 s0, .int .i64 s1]] w fun e w' => e = .returned (.int .i64 (eIce b0 b1 w0 w1 q0 q1 s0 s1)) ∧ Below w.heap.size w w' := by
  have i0 : ∀ w, (Instr.index 105 (.agg #[.int .i64 b0, .int .i64 b1, .int .i64 w0, .int .i64 w1, .int .i64 q0, .int .i64 q1, .int .i64 s0, .int .i64 s1]) (.int .i64 0)).run Tryz.prog w = .ok (.agg #[.int .i64 b0, .int .i64 b1]) w := fun _ => by kernel_rfl
  have i1 : ∀ w, (Instr.index 105 (.agg #[.int .i64 b0, .int .i64 b1, .int .i64 w0, .int .i64 w1, .int .i64 q0, .int .i64 q1, .int .i64 s0, .int .i64 s1]) (.int .i64 1)).run Tryz.prog w = .ok (.agg #[.int .i64 w0, .int .i64 w1]) w := fun _ => by kernel_rfl
  have i2 : ∀ w, (Instr.index 105 (.agg #[.int .i64 b0, .int .i64 b1, .int .i64 w0, .int .i64 w1, .int .i64 q0, .int .i64 q1, .int .i64 s0, .int .i64 s1]) (.int .i64 2)).run Tryz.prog w = .ok (.agg #[.int .i64 q0, .int .i64 q1]) w := fun _ => by kernel_rfl
  have i3 : ∀ w, (Instr.index 105 (.agg #[.int .i64 b0, .int .i64 b1, .int .i64 w0, .int .i64 w1, .int .i64 q0, .int .i64 q1, .int .i64 s0, .int .i64 s1]) (.int .i64 3)).run Tryz.prog w = .ok (.agg #[.int .i64 s0, .int .i64 s1]) w := fun _ => by kernel_rfl
  go_enter Tryz.func44, Tryz.ntmps44
  go_wp2_with (go_at_call 70; refine (known_any _ _ _ _ _ _ _ _ _).mono ?_; rintro e w' ⟨rfl, hb⟩)
  have hB0 : Below w.heap.size w w' := bwS (by (go_split_ands; first | assumption | (repeat (first | exact Below.refl _ _ | assumption | refine Below.drew ?_ | refine Below.drewN ?_ _ | refine blT ?_ | refine blU ?_)))) (Nat.le_refl _) hb
  clear hb
  go_loopw [8] (fun i wr => ∃ k : Nat, k ≤ 4 ∧ i = .int .i64 k ∧ eIce b0 b1 w0 w1 q0 q1 s0 s1 = firstNZ (iceE b0 b1 w0 w1 q0 q1 s0 s1) k (4 - k) ∧ Below w.heap.size w wr) (fun i _ => 4 - (intOf i).toNat)
  case atStart => exact ⟨0, by omega, rfl, rfl, hB0⟩
  case round =>
    obtain ⟨k, hk, rfl, hd, hB⟩ := hrel
    have HD : Hid _ := hd
    clear hd hB0
    obtain rfl | rfl | rfl | rfl | rfl : k = 0 ∨ k = 1 ∨ k = 2 ∨ k = 3 ∨ k = 4 := by omega
    · -- round 0
      by_cases hz2 : eS b0 b1 0 5000 = 0
      · have H0 : Hid (firstNZ (iceE b0 b1 w0 w1 q0 q1 s0 s1) 0 (4 - 0) = firstNZ (iceE b0 b1 w0 w1 q0 q1 s0 s1) (0 + 1) (4 - (0 + 1))) := firstNZ_step0 _ 4 0 (by omega) hz2
        have hz3 : (eS b0 b1 0 5000 != 0) = false := by simpa using hz2
        clear hz2
        go_wp2_with (go_at_call 67; refine (span_any _ _ _ _ _).mono ?_; rintro e w2 ⟨rfl, hb2⟩)
        go_roundw
        case rel => exact ⟨0 + 1, by omega, by go_num, HD.out.trans H0.out, bwS (by (go_split_ands; first | assumption | (repeat (first | exact Below.refl _ _ | assumption | refine Below.drew ?_ | refine Below.drewN ?_ _ | refine blT ?_ | refine blU ?_)))) (Nat.le_refl _) hb2⟩
        case measure => simp [intOf]
      · have H0 : Hid (firstNZ (iceE b0 b1 w0 w1 q0 q1 s0 s1) 0 (4 - 0) = eS b0 b1 0 5000) := firstNZ_stepN _ 4 0 (by omega) hz2
        have hz3 : (eS b0 b1 0 5000 != 0) = true := by simpa using hz2
        clear hz2
        go_wp2_with (go_at_call 67; refine (span_any _ _ _ _ _).mono ?_; rintro e w2 ⟨rfl, hb2⟩)
        go_ret
        exact ⟨ret_int (HD.out.trans H0.out).symm, bwS (by (go_split_ands; first | assumption | (repeat (first | exact Below.refl _ _ | assumption | refine Below.drew ?_ | refine Below.drewN ?_ _ | refine blT ?_ | refine blU ?_)))) (Nat.le_refl _) hb2⟩
    · -- round 1
      by_cases hz2 : eS w0 w1 0 5000 = 0
      · have H0 : Hid (firstNZ (iceE b0 b1 w0 w1 q0 q1 s0 s1) 1 (4 - 1) = firstNZ (iceE b0 b1 w0 w1 q0 q1 s0 s1) (1 + 1) (4 - (1 + 1))) := firstNZ_step0 _ 4 1 (by omega) hz2
        have hz3 : (eS w0 w1 0 5000 != 0) = false := by simpa using hz2
        clear hz2
        go_wp2_with (go_at_call 67; refine (span_any _ _ _ _ _).mono ?_; rintro e w2 ⟨rfl, hb2⟩)
        go_roundw
        case rel => exact ⟨1 + 1, by omega, by go_num, HD.out.trans H0.out, bwS (by (go_split_ands; first | assumption | (repeat (first | exact Below.refl _ _ | assumption | refine Below.drew ?_ | refine Below.drewN ?_ _ | refine blT ?_ | refine blU ?_)))) (Nat.le_refl _) hb2⟩
        case measure => simp [intOf]
      · have H0 : Hid (firstNZ (iceE b0 b1 w0 w1 q0 q1 s0 s1) 1 (4 - 1) = eS w0 w1 0 5000) := firstNZ_stepN _ 4 1 (by omega) hz2
        have hz3 : (eS w0 w1 0 5000 != 0) = true := by simpa using hz2
        clear hz2
        go_wp2_with (go_at_call 67; refine (span_any _ _ _ _ _).mono ?_; rintro e w2 ⟨rfl, hb2⟩)
        go_ret
        exact ⟨ret_int (HD.out.trans H0.out).symm, bwS (by (go_split_ands; first | assumption | (repeat (first | exact Below.refl _ _ | assumption | refine Below.drew ?_ | refine Below.drewN ?_ _ | refine blT ?_ | refine blU ?_)))) (Nat.le_refl _) hb2⟩
    · -- round 2
      by_cases hz2 : eS q0 q1 0 5000 = 0
      · have H0 : Hid (firstNZ (iceE b0 b1 w0 w1 q0 q1 s0 s1) 2 (4 - 2) = firstNZ (iceE b0 b1 w0 w1 q0 q1 s0 s1) (2 + 1) (4 - (2 + 1))) := firstNZ_step0 _ 4 2 (by omega) hz2
        have hz3 : (eS q0 q1 0 5000 != 0) = false := by simpa using hz2
        clear hz2
        go_wp2_with (go_at_call 67; refine (span_any _ _ _ _ _).mono ?_; rintro e w2 ⟨rfl, hb2⟩)
        go_roundw
        case rel => exact ⟨2 + 1, by omega, by go_num, HD.out.trans H0.out, bwS (by (go_split_ands; first | assumption | (repeat (first | exact Below.refl _ _ | assumption | refine Below.drew ?_ | refine Below.drewN ?_ _ | refine blT ?_ | refine blU ?_)))) (Nat.le_refl _) hb2⟩
        case measure => simp [intOf]
      · have H0 : Hid (firstNZ (iceE b0 b1 w0 w1 q0 q1 s0 s1) 2 (4 - 2) = eS q0 q1 0 5000) := firstNZ_stepN _ 4 2 (by omega) hz2
        have hz3 : (eS q0 q1 0 5000 != 0) = true := by simpa using hz2
        clear hz2
        go_wp2_with (go_at_call 67; refine (span_any _ _ _ _ _).mono ?_; rintro e w2 ⟨rfl, hb2⟩)
        go_ret
        exact ⟨ret_int (HD.out.trans H0.out).symm, bwS (by (go_split_ands; first | assumption | (repeat (first | exact Below.refl _ _ | assumption | refine Below.drew ?_ | refine Below.drewN ?_ _ | refine blT ?_ | refine blU ?_)))) (Nat.le_refl _) hb2⟩
    · -- round 3
      by_cases hz2 : eS s0 s1 0 5000 = 0
      · have H0 : Hid (firstNZ (iceE b0 b1 w0 w1 q0 q1 s0 s1) 3 (4 - 3) = firstNZ (iceE b0 b1 w0 w1 q0 q1 s0 s1) (3 + 1) (4 - (3 + 1))) := firstNZ_step0 _ 4 3 (by omega) hz2
        have hz3 : (eS s0 s1 0 5000 != 0) = false := by simpa using hz2
        clear hz2
        go_wp2_with (go_at_call 67; refine (span_any _ _ _ _ _).mono ?_; rintro e w2 ⟨rfl, hb2⟩)
        go_roundw
        case rel => exact ⟨3 + 1, by omega, by go_num, HD.out.trans H0.out, bwS (by (go_split_ands; first | assumption | (repeat (first | exact Below.refl _ _ | assumption | refine Below.drew ?_ | refine Below.drewN ?_ _ | refine blT ?_ | refine blU ?_)))) (Nat.le_refl _) hb2⟩
        case measure => simp [intOf]
      · have H0 : Hid (firstNZ (iceE b0 b1 w0 w1 q0 q1 s0 s1) 3 (4 - 3) = eS s0 s1 0 5000) := firstNZ_stepN _ 4 3 (by omega) hz2
        have hz3 : (eS s0 s1 0 5000 != 0) = true := by simpa using hz2
        clear hz2
        go_wp2_with (go_at_call 67; refine (span_any _ _ _ _ _).mono ?_; rintro e w2 ⟨rfl, hb2⟩)
        go_ret
        exact ⟨ret_int (HD.out.trans H0.out).symm, bwS (by (go_split_ands; first | assumption | (repeat (first | exact Below.refl _ _ | assumption | refine Below.drew ?_ | refine Below.drewN ?_ _ | refine blT ?_ | refine blU ?_)))) (Nat.le_refl _) hb2⟩
    · go_wp2
      go_ret
      exact ⟨ret_int HD.out.symm, hB⟩

def eLaw (gr la : Int) (n : Nat) (D P0 P1 : Nat → Int) (m0 m1 so h0 h1 : Int) : Int :=
  orE (eN gr 0 10000) (orE (eN la 1 1000) (orE (eCs n D P0 P1) (orE (eS m0 m1 0 10000000) (orE (eN so 0 1000000) (eS h0 h1 0 1000000)))))

set_option maxHeartbeats 4000000 in
theorem law_any (gr la : Int) (v : Value) (n : Nat) (D P0 P1 : Nat → Int) (m0 m1 so h0 h1 : Int) (w : World) (hv : CovAt w v n D P0 P1) :
    Calls Tryz.prog 43 #[.agg #[.int .i64 gr, .int .i64 la, v, .int .i64 m0, .int .i64 m1, .int .i64 so, .int .i64 h0, .int .i64 h1]] w fun e w' => e = .returned (.int .i64 (eLaw gr la n D P0 P1 m0 m1 so h0 h1)) ∧ Below w.heap.size w w' := by
  have hlater : ∀ W, Below w.heap.size w W → CovAt W v n D P0 P1 := fun W h => hv.later h
  have hF : ∀ (b cap : Nat) (W : World), W.cell? ⟨b, 0, none⟩ = some (.int .i64 (eN gr 0 10000)) → W.cell? ⟨b, 1, none⟩ = some (.int .i64 (eN la 1 1000)) → W.cell? ⟨b, 2, none⟩ = some (.int .i64 (eCs n D P0 P1)) → W.cell? ⟨b, 3, none⟩ = some (.int .i64 (eS m0 m1 0 10000000)) → W.cell? ⟨b, 4, none⟩ = some (.int .i64 (eN so 0 1000000)) → W.cell? ⟨b, 5, none⟩ = some (.int .i64 (eS h0 h1 0 1000000)) →
      Calls Tryz.prog 42 #[.slice (some ⟨b, 0, none⟩) 6 cap] W fun e w' => e = .returned (.int .i64 (eLaw gr la n D P0 P1 m0 m1 so h0 h1)) ∧ W = w' := fun b cap W a0 a1 a2 a3 a4 a5 => first_six b cap _ _ _ _ _ _ W a0 a1 a2 a3 a4 a5
  obtain ⟨va, vcap, rfl, hv1, hv2, hv3⟩ := hv
  have HL : Hid _ := hlater
  have HF : Hid _ := hF
  clear hlater hF hv3
  go_enter Tryz.func43, Tryz.ntmps43
  go_wp2_with fail
  refine wp_region_held_drew (S := (fun w' => w'.cell? ⟨w.heap.size, 0, none⟩ = some (.int .i64 gr) ∧ w'.cell? ⟨w.heap.size, 1, none⟩ = some (.int .i64 la) ∧ w'.cell? ⟨w.heap.size, 2, none⟩ = some (.slice va n vcap) ∧ w'.cell? ⟨w.heap.size, 3, none⟩ = some (.int .i64 m0) ∧ w'.cell? ⟨w.heap.size, 4, none⟩ = some (.int .i64 m1) ∧ w'.cell? ⟨w.heap.size, 5, none⟩ = some (.int .i64 so) ∧ w'.cell? ⟨w.heap.size, 6, none⟩ = some (.int .i64 h0) ∧ w'.cell? ⟨w.heap.size, 7, none⟩ = some (.int .i64 h1) ∧ Below w.heap.size w w')) (by kernel_rfl) ?_ (fun hH => ?_)
  · (try dsimp only); (go_split_ands; refine ⟨?_, ?_, ?_, ?_, ?_, ?_, ?_, ?_, ?_⟩ <;> (first | assumption | (go_simp; done) | (go_keep; done) | (refine cell_later hb ?_; first | assumption | (go_keep; done)) | (refine bwS ?_ ?_ hb; (first | assumption | ((repeat (first | exact Below.refl _ _ | assumption | refine Below.drew ?_ | refine Below.drewN ?_ _ | refine blT ?_ | refine blU ?_)); done)); (first | exact Nat.le_refl _ | (simp; done) | (simp; omega))) | ((repeat (first | exact Below.refl _ _ | assumption | refine Below.drew ?_ | refine Below.drewN ?_ _ | refine blT ?_ | refine blU ?_)); done)))
  refine tkY 0 (some 3) ?_ ?_ ?_
  rotate_left
  · intro w hS0; go_simp; (try with_reducible rfl)
  (try simp only [cq])
  refine tkY 1 (some 4) ?_ ?_ ?_
  rotate_left
  · intro w hS0; go_simp; (try with_reducible rfl)
  (try simp only [cq])
  refine tkY 3 (some 6) ?_ ?_ ?_
  rotate_left
  · intro w hS0; go_simp; (try with_reducible rfl)
  (try simp only [cq])
  refine tkY 4 (some 7) ?_ ?_ ?_
  rotate_left
  · intro w hS0; go_simp; (try with_reducible rfl)
  (try simp only [cq])
  refine tkY 6 (some 9) ?_ ?_ ?_
  rotate_left
  · intro w hS0; go_simp; (try with_reducible rfl)
  (try simp only [cq])
  refine tkY 7 (some 10) ?_ ?_ ?_
  rotate_left
  · intro w hS0; go_simp; (try with_reducible rfl)
  (try simp only [cq])
  refine tkY 9 (some 12) ?_ ?_ ?_
  rotate_left
  · intro w hS0; go_simp; (try with_reducible rfl)
  (try simp only [cq])
  refine tkY 10 (some 13) ?_ ?_ ?_
  rotate_left
  · intro w hS0; go_simp; (try with_reducible rfl)
  (try simp only [cq])
  refine tkY 12 (some 15) ?_ ?_ ?_
  rotate_left
  · intro w hS0; go_simp; (try with_reducible rfl)
  (try simp only [cq])
  refine tkY 13 (some 16) ?_ ?_ ?_
  rotate_left
  · intro w hS0; go_simp; (try with_reducible rfl)
  (try simp only [cq])
  refine tkY 15 (some 18) ?_ ?_ ?_
  rotate_left
  · intro w hS0; go_simp; (try with_reducible rfl)
  (try simp only [cq])
  refine tkY 16 (some 19) ?_ ?_ ?_
  rotate_left
  · intro w hS0; go_simp; (try with_reducible rfl)
  (try simp only [cq])
  refine wpAnyH_ready (rs := [2]) (by kernel_rfl) (by simp) ?_
  refine arc1 (some 5) fun K hK => ?_
  go_simp
  (refine (number_any _ _ _ _).mono ?_; rintro e w' ⟨rfl, rfl⟩)
  refine hK.out _ _ ?_ (fun hH => ?_)
  · (go_split_ands; refine ⟨?_, ?_, ?_, ?_, ?_, ?_, ?_, ?_, ?_⟩ <;> (first | assumption | (go_simp; done) | (go_keep; done) | (refine cell_later hb ?_; first | assumption | (go_keep; done)) | (refine bwS ?_ ?_ hb; (first | assumption | ((repeat (first | exact Below.refl _ _ | assumption | refine Below.drew ?_ | refine Below.drewN ?_ _ | refine blT ?_ | refine blU ?_)); done)); (first | exact Nat.le_refl _ | (simp; done) | (simp; omega))) | ((repeat (first | exact Below.refl _ _ | assumption | refine Below.drew ?_ | refine Below.drewN ?_ _ | refine blT ?_ | refine blU ?_)); done)))
  clear hK K
  (try simp only [cq])
  refine wpAnyH_ready (rs := [5]) (by kernel_rfl) (by simp) ?_
  refine arc1 (some 8) fun K hK => ?_
  go_simp
  (refine (number_any _ _ _ _).mono ?_; rintro e w' ⟨rfl, rfl⟩)
  refine hK.out _ _ ?_ (fun hH => ?_)
  · (go_split_ands; refine ⟨?_, ?_, ?_, ?_, ?_, ?_, ?_, ?_, ?_⟩ <;> (first | assumption | (go_simp; done) | (go_keep; done) | (refine cell_later hb ?_; first | assumption | (go_keep; done)) | (refine bwS ?_ ?_ hb; (first | assumption | ((repeat (first | exact Below.refl _ _ | assumption | refine Below.drew ?_ | refine Below.drewN ?_ _ | refine blT ?_ | refine blU ?_)); done)); (first | exact Nat.le_refl _ | (simp; done) | (simp; omega))) | ((repeat (first | exact Below.refl _ _ | assumption | refine Below.drew ?_ | refine Below.drewN ?_ _ | refine blT ?_ | refine blU ?_)); done)))
  clear hK K
  (try simp only [cq])
  refine wpAnyH_ready (rs := [8]) (by kernel_rfl) (by simp) ?_
  refine arc1 (some 11) fun K hK => ?_
  go_simp
  (refine (covers_any _ n D P0 P1 _ (HL.out _ ?_)).mono ?_; (exact hH.2.2.2.2.2.2.2.2); rintro e w' ⟨rfl, hb⟩)
  refine hK.out _ _ ?_ (fun hH => ?_)
  · (go_split_ands; refine ⟨?_, ?_, ?_, ?_, ?_, ?_, ?_, ?_, ?_⟩ <;> (first | assumption | (go_simp; done) | (go_keep; done) | (refine cell_later hb ?_; first | assumption | (go_keep; done)) | (refine bwS ?_ ?_ hb; (first | assumption | ((repeat (first | exact Below.refl _ _ | assumption | refine Below.drew ?_ | refine Below.drewN ?_ _ | refine blT ?_ | refine blU ?_)); done)); (first | exact Nat.le_refl _ | (simp; done) | (simp; omega))) | ((repeat (first | exact Below.refl _ _ | assumption | refine Below.drew ?_ | refine Below.drewN ?_ _ | refine blT ?_ | refine blU ?_)); done)))
  clear hK K
  (try simp only [cq])
  refine wpAnyH_ready (rs := [11]) (by kernel_rfl) (by simp) ?_
  refine arc1 (some 14) fun K hK => ?_
  go_simp
  (refine (span_any _ _ _ _ _).mono ?_; rintro e w' ⟨rfl, hb⟩)
  refine hK.out _ _ ?_ (fun hH => ?_)
  · (go_split_ands; refine ⟨?_, ?_, ?_, ?_, ?_, ?_, ?_, ?_, ?_⟩ <;> (first | assumption | (go_simp; done) | (go_keep; done) | (refine cell_later hb ?_; first | assumption | (go_keep; done)) | (refine bwS ?_ ?_ hb; (first | assumption | ((repeat (first | exact Below.refl _ _ | assumption | refine Below.drew ?_ | refine Below.drewN ?_ _ | refine blT ?_ | refine blU ?_)); done)); (first | exact Nat.le_refl _ | (simp; done) | (simp; omega))) | ((repeat (first | exact Below.refl _ _ | assumption | refine Below.drew ?_ | refine Below.drewN ?_ _ | refine blT ?_ | refine blU ?_)); done)))
  clear hK K
  (try simp only [cq])
  refine wpAnyH_ready (rs := [14]) (by kernel_rfl) (by simp) ?_
  refine arc1 (some 17) fun K hK => ?_
  go_simp
  (refine (number_any _ _ _ _).mono ?_; rintro e w' ⟨rfl, rfl⟩)
  refine hK.out _ _ ?_ (fun hH => ?_)
  · (go_split_ands; refine ⟨?_, ?_, ?_, ?_, ?_, ?_, ?_, ?_, ?_⟩ <;> (first | assumption | (go_simp; done) | (go_keep; done) | (refine cell_later hb ?_; first | assumption | (go_keep; done)) | (refine bwS ?_ ?_ hb; (first | assumption | ((repeat (first | exact Below.refl _ _ | assumption | refine Below.drew ?_ | refine Below.drewN ?_ _ | refine blT ?_ | refine blU ?_)); done)); (first | exact Nat.le_refl _ | (simp; done) | (simp; omega))) | ((repeat (first | exact Below.refl _ _ | assumption | refine Below.drew ?_ | refine Below.drewN ?_ _ | refine blT ?_ | refine blU ?_)); done)))
  clear hK K
  (try simp only [cq])
  refine wpAnyH_ready (rs := [17]) (by kernel_rfl) (by simp) ?_
  refine arc1 (some 20) fun K hK => ?_
  go_simp
  (refine (span_any _ _ _ _ _).mono ?_; rintro e w' ⟨rfl, hb⟩)
  refine hK.out _ _ ?_ (fun hH => ?_)
  · (go_split_ands; refine ⟨?_, ?_, ?_, ?_, ?_, ?_, ?_, ?_, ?_⟩ <;> (first | assumption | (go_simp; done) | (go_keep; done) | (refine cell_later hb ?_; first | assumption | (go_keep; done)) | (refine bwS ?_ ?_ hb; (first | assumption | ((repeat (first | exact Below.refl _ _ | assumption | refine Below.drew ?_ | refine Below.drewN ?_ _ | refine blT ?_ | refine blU ?_)); done)); (first | exact Nat.le_refl _ | (simp; done) | (simp; omega))) | ((repeat (first | exact Below.refl _ _ | assumption | refine Below.drew ?_ | refine Below.drewN ?_ _ | refine blT ?_ | refine blU ?_)); done)))
  clear hK K
  (try simp only [cq])
  refine wpAnyH_ready (rs := [18]) (by kernel_rfl) (by simp) ?_
  refine arc1 (some 21) fun K hK => ?_
  go_simp
  refine hK.out _ _ ?_ (fun hH => ?_)
  · (go_split_ands; refine ⟨?_, ?_, ?_, ?_, ?_, ?_, ?_, ?_, ?_⟩ <;> (first | assumption | (go_simp; done) | (go_keep; done) | (refine cell_later hb ?_; first | assumption | (go_keep; done)) | (refine bwS ?_ ?_ hb; (first | assumption | ((repeat (first | exact Below.refl _ _ | assumption | refine Below.drew ?_ | refine Below.drewN ?_ _ | refine blT ?_ | refine blU ?_)); done)); (first | exact Nat.le_refl _ | (simp; done) | (simp; omega))) | ((repeat (first | exact Below.refl _ _ | assumption | refine Below.drew ?_ | refine Below.drewN ?_ _ | refine blT ?_ | refine blU ?_)); done)))
  clear hK K
  (try simp only [cq])
  refine wpAnyH_ready (rs := [19]) (by kernel_rfl) (by simp) ?_
  refine arc1 (some 22) fun K hK => ?_
  go_simp
  (refine (HF.out _ _ _ ?_ ?_ ?_ ?_ ?_ ?_).mono ?_; simp; simp; simp; simp; simp; simp; rintro e w' ⟨rfl, rfl⟩)
  refine hK.out _ _ ?_ (fun hH => ?_)
  · (go_split_ands; refine ⟨?_, ?_, ?_, ?_, ?_, ?_, ?_, ?_, ?_⟩ <;> (first | assumption | (go_simp; done) | (go_keep; done) | (refine cell_later hb ?_; first | assumption | (go_keep; done)) | (refine bwS ?_ ?_ hb; (first | assumption | ((repeat (first | exact Below.refl _ _ | assumption | refine Below.drew ?_ | refine Below.drewN ?_ _ | refine blT ?_ | refine blU ?_)); done)); (first | exact Nat.le_refl _ | (simp; done) | (simp; omega))) | ((repeat (first | exact Below.refl _ _ | assumption | refine Below.drew ?_ | refine Below.drewN ?_ _ | refine blT ?_ | refine blU ?_)); done)))
  clear hK K
  (try simp only [cq])
  refine tkY 20 (some 2) ?_ ?_ ?_
  rotate_left
  · intro w _; go_simp; (try with_reducible rfl)
  (try simp only [cq])
  refine wpAnyH_done (by kernel_rfl) ?_ _
  (try dsimp only [Act.put])
  (try simp only [cq])
  have hBB : Below w.heap.size w _ := hH.2.2.2.2.2.2.2.2
  clear hH
  go_wp2
  go_ret
  exact ⟨rfl, hBB⟩

set_option maxHeartbeats 8000000 in
theorem all_any (gr la : Int) (v : Value) (n : Nat) (D P0 P1 : Nat → Int) (m0 m1 so h0 h1 : Int) (b0 b1 w0 w1 q0 q1 s0 s1 : Int) (vd : Value) (nd : Nat) (d : Nat → Dy) (w : World) (hv : CovAt w v n D P0 P1) (hd : DaysAt w vd nd d) :
    Calls Tryz.prog 36 #[.agg #[.int .i64 gr, .int .i64 la, v, .int .i64 m0, .int .i64 m1, .int .i64 so, .int .i64 h0, .int .i64 h1], .agg #[.int .i64 b0, .int .i64 b1, .int .i64 w0, .int .i64 w1, .int .i64 q0, .int .i64 q1, .int .i64 s0, .int .i64 s1], vd] w fun e w' => e = .returned (.int .i64 (orE (eLaw gr la n D P0 P1 m0 m1 so h0 h1) (orE (eIce b0 b1 w0 w1 q0 q1 s0 s1) (eDs nd d)))) ∧ Below w.heap.size w w' := by
  have hL : ∀ W, Below w.heap.size w W → Calls Tryz.prog 43 #[.agg #[.int .i64 gr, .int .i64 la, v, .int .i64 m0, .int .i64 m1, .int .i64 so, .int .i64 h0, .int .i64 h1]] W fun e w' => e = .returned (.int .i64 (eLaw gr la n D P0 P1 m0 m1 so h0 h1)) ∧ Below W.heap.size W w' := fun W h => law_any _ _ _ _ _ _ _ _ _ _ _ _ W (hv.later h)
  have hD : ∀ W, Below w.heap.size w W → Calls Tryz.prog 40 #[vd] W fun e w' => e = .returned (.int .i64 (eDs nd d)) ∧ Below W.heap.size W w' := fun W h => days_any _ _ _ W (hd.later h)
  obtain ⟨va, vcap, rfl, hv1, hv2, hv3⟩ := hv
  obtain ⟨da, dcap, rfl, hd1, hd2, hd3⟩ := hd
  have HL : Hid _ := hL
  have HD : Hid _ := hD
  clear hL hD hv3 hd3
  go_enter Tryz.func36, Tryz.ntmps36
  go_wp2_with fail
  refine wp_region_held_drew (S := (fun w' => w'.cell? ⟨w.heap.size, 0, none⟩ = some (.int .i64 gr) ∧ w'.cell? ⟨w.heap.size, 1, none⟩ = some (.int .i64 la) ∧ w'.cell? ⟨w.heap.size, 2, none⟩ = some (.slice va n vcap) ∧ w'.cell? ⟨w.heap.size, 3, none⟩ = some (.int .i64 m0) ∧ w'.cell? ⟨w.heap.size, 4, none⟩ = some (.int .i64 m1) ∧ w'.cell? ⟨w.heap.size, 5, none⟩ = some (.int .i64 so) ∧ w'.cell? ⟨w.heap.size, 6, none⟩ = some (.int .i64 h0) ∧ w'.cell? ⟨w.heap.size, 7, none⟩ = some (.int .i64 h1) ∧ w'.cell? ⟨w.heap.size + 1, 0, none⟩ = some (.int .i64 b0) ∧ w'.cell? ⟨w.heap.size + 1, 1, none⟩ = some (.int .i64 b1) ∧ w'.cell? ⟨w.heap.size + 1, 2, none⟩ = some (.int .i64 w0) ∧ w'.cell? ⟨w.heap.size + 1, 3, none⟩ = some (.int .i64 w1) ∧ w'.cell? ⟨w.heap.size + 1, 4, none⟩ = some (.int .i64 q0) ∧ w'.cell? ⟨w.heap.size + 1, 5, none⟩ = some (.int .i64 q1) ∧ w'.cell? ⟨w.heap.size + 1, 6, none⟩ = some (.int .i64 s0) ∧ w'.cell? ⟨w.heap.size + 1, 7, none⟩ = some (.int .i64 s1) ∧ Below w.heap.size w w')) (by kernel_rfl) ?_ (fun hH => ?_)
  · (try dsimp only); (go_split_ands; refine ⟨?_, ?_, ?_, ?_, ?_, ?_, ?_, ?_, ?_, ?_, ?_, ?_, ?_, ?_, ?_, ?_, ?_⟩ <;> (first | assumption | (go_simp; done) | (go_keep; done) | (refine cell_later hb ?_; first | assumption | (go_keep; done)) | (refine bwS ?_ ?_ hb; (first | assumption | ((repeat (first | exact Below.refl _ _ | assumption | refine Below.drew ?_ | refine Below.drewN ?_ _ | refine blT ?_ | refine blU ?_)); done)); (first | exact Nat.le_refl _ | (simp; done) | (simp; omega))) | ((repeat (first | exact Below.refl _ _ | assumption | refine Below.drew ?_ | refine Below.drewN ?_ _ | refine blT ?_ | refine blU ?_)); done)))
  refine tkY 0 (some 7) ?_ ?_ ?_
  rotate_left
  · intro w hS0; go_simp; (try with_reducible rfl)
  (try simp only [cq])
  refine tkY 2 (some 9) ?_ ?_ ?_
  rotate_left
  · intro w hS0; go_simp; (try with_reducible rfl)
  (try simp only [cq])
  refine tkY 4 (some 11) ?_ ?_ ?_
  rotate_left
  · intro w _; go_simp; (try with_reducible rfl)
  (try simp only [cq])
  refine wpAnyH_ready (rs := [1]) (by kernel_rfl) (by simp) ?_
  refine arc1 (some 8) fun K hK => ?_
  go_simp
  (refine (HL.out _ ?_).mono ?_; (go_split_ands; assumption); rintro e w' ⟨rfl, hb⟩)
  refine hK.out _ _ ?_ (fun hH => ?_)
  · (go_split_ands; refine ⟨?_, ?_, ?_, ?_, ?_, ?_, ?_, ?_, ?_, ?_, ?_, ?_, ?_, ?_, ?_, ?_, ?_⟩ <;> (first | assumption | (go_simp; done) | (go_keep; done) | (refine cell_later hb ?_; first | assumption | (go_keep; done)) | (refine bwS ?_ ?_ hb; (first | assumption | ((repeat (first | exact Below.refl _ _ | assumption | refine Below.drew ?_ | refine Below.drewN ?_ _ | refine blT ?_ | refine blU ?_)); done)); (first | exact Nat.le_refl _ | (simp; done) | (simp; omega))) | ((repeat (first | exact Below.refl _ _ | assumption | refine Below.drew ?_ | refine Below.drewN ?_ _ | refine blT ?_ | refine blU ?_)); done)))
  clear hK K
  (try simp only [cq])
  refine wpAnyH_ready (rs := [3]) (by kernel_rfl) (by simp) ?_
  refine arc1 (some 10) fun K hK => ?_
  go_simp
  (refine (ice_any _ _ _ _ _ _ _ _ _).mono ?_; rintro e w' ⟨rfl, hb⟩)
  refine hK.out _ _ ?_ (fun hH => ?_)
  · (go_split_ands; refine ⟨?_, ?_, ?_, ?_, ?_, ?_, ?_, ?_, ?_, ?_, ?_, ?_, ?_, ?_, ?_, ?_, ?_⟩ <;> (first | assumption | (go_simp; done) | (go_keep; done) | (refine cell_later hb ?_; first | assumption | (go_keep; done)) | (refine bwS ?_ ?_ hb; (first | assumption | ((repeat (first | exact Below.refl _ _ | assumption | refine Below.drew ?_ | refine Below.drewN ?_ _ | refine blT ?_ | refine blU ?_)); done)); (first | exact Nat.le_refl _ | (simp; done) | (simp; omega))) | ((repeat (first | exact Below.refl _ _ | assumption | refine Below.drew ?_ | refine Below.drewN ?_ _ | refine blT ?_ | refine blU ?_)); done)))
  clear hK K
  (try simp only [cq])
  refine wpAnyH_ready (rs := [5]) (by kernel_rfl) (by simp) ?_
  refine arc1 (some 12) fun K hK => ?_
  go_simp
  (refine (HD.out _ ?_).mono ?_; (go_split_ands; assumption); rintro e w' ⟨rfl, hb⟩)
  refine hK.out _ _ ?_ (fun hH => ?_)
  · (go_split_ands; refine ⟨?_, ?_, ?_, ?_, ?_, ?_, ?_, ?_, ?_, ?_, ?_, ?_, ?_, ?_, ?_, ?_, ?_⟩ <;> (first | assumption | (go_simp; done) | (go_keep; done) | (refine cell_later hb ?_; first | assumption | (go_keep; done)) | (refine bwS ?_ ?_ hb; (first | assumption | ((repeat (first | exact Below.refl _ _ | assumption | refine Below.drew ?_ | refine Below.drewN ?_ _ | refine blT ?_ | refine blU ?_)); done)); (first | exact Nat.le_refl _ | (simp; done) | (simp; omega))) | ((repeat (first | exact Below.refl _ _ | assumption | refine Below.drew ?_ | refine Below.drewN ?_ _ | refine blT ?_ | refine blU ?_)); done)))
  clear hK K
  (try simp only [cq])
  refine wpAnyH_ready (rs := [6]) (by kernel_rfl) (by simp) ?_
  refine arc1 (some 13) fun K hK => ?_
  go_simp
  refine hK.out _ _ ?_ (fun hH => ?_)
  · (go_split_ands; refine ⟨?_, ?_, ?_, ?_, ?_, ?_, ?_, ?_, ?_, ?_, ?_, ?_, ?_, ?_, ?_, ?_, ?_⟩ <;> (first | assumption | (go_simp; done) | (go_keep; done) | (refine cell_later hb ?_; first | assumption | (go_keep; done)) | (refine bwS ?_ ?_ hb; (first | assumption | ((repeat (first | exact Below.refl _ _ | assumption | refine Below.drew ?_ | refine Below.drewN ?_ _ | refine blT ?_ | refine blU ?_)); done)); (first | exact Nat.le_refl _ | (simp; done) | (simp; omega))) | ((repeat (first | exact Below.refl _ _ | assumption | refine Below.drew ?_ | refine Below.drewN ?_ _ | refine blT ?_ | refine blU ?_)); done)))
  clear hK K
  (try simp only [cq])
  refine wpAnyH_ready (rs := [7]) (by kernel_rfl) (by simp) ?_
  refine arc1 (some 14) fun K hK => ?_
  go_simp
  (refine (first_three _ _ (eLaw gr la n D P0 P1 m0 m1 so h0 h1) (eIce b0 b1 w0 w1 q0 q1 s0 s1) (eDs nd d) _ ?_ ?_ ?_).mono ?_; simp; simp; simp; rintro e w' ⟨rfl, rfl⟩)
  refine hK.out _ _ ?_ (fun hH => ?_)
  · (go_split_ands; refine ⟨?_, ?_, ?_, ?_, ?_, ?_, ?_, ?_, ?_, ?_, ?_, ?_, ?_, ?_, ?_, ?_, ?_⟩ <;> (first | assumption | (go_simp; done) | (go_keep; done) | (refine cell_later hb ?_; first | assumption | (go_keep; done)) | (refine bwS ?_ ?_ hb; (first | assumption | ((repeat (first | exact Below.refl _ _ | assumption | refine Below.drew ?_ | refine Below.drewN ?_ _ | refine blT ?_ | refine blU ?_)); done)); (first | exact Nat.le_refl _ | (simp; done) | (simp; omega))) | ((repeat (first | exact Below.refl _ _ | assumption | refine Below.drew ?_ | refine Below.drewN ?_ _ | refine blT ?_ | refine blU ?_)); done)))
  clear hK K
  (try simp only [cq])
  refine tkY 8 (some 6) ?_ ?_ ?_
  rotate_left
  · intro w _; go_simp; (try with_reducible rfl)
  (try simp only [cq])
  refine wpAnyH_done (by kernel_rfl) ?_ _
  (try dsimp only [Act.put])
  (try simp only [cq])
  have hBB : Below w.heap.size w _ := hH.2.2.2.2.2.2.2.2.2.2.2.2.2.2.2.2
  clear hH
  go_wp2
  go_ret
  exact ⟨rfl, hBB⟩
end Go.Proofs.YtdbiijldincoiaaGreat

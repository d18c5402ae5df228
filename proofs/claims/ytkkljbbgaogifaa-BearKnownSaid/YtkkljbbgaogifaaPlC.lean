/-
  The check of a plate (package bear), exact for any plate.
-/
import Derived.Test.YtkkljbbgaogifaaTail
import Derived.Test.YtkkljbbgaogifaaTabD
set_option linter.unusedVariables false
set_option linter.unusedSimpArgs false
namespace Go.Proofs.Ytkkljbbgaogifaa
open Go.RowKit

theorem orE_zero (a : Int) : orE a 0 = a := by
  unfold orE
  by_cases h : a = 0 <;> simp [h]
def ePl (p : Pl) : Int := orE (eS p.s0 p.s1 1 100000) (orE (eTab p.S.n p.S.F p.S.P) (orE (eTab p.C.n p.C.F p.C.P) (orE (eN p.ne 0 10000) (orE (eN p.ed 0 1000000) (orE (eN p.gr 1 1000) (orE (eS p.lo p.hi 1 4000000) (orE (eN p.sh 0 10000) (eN p.wi 0 1000000))))))))

theorem first_nine (b cap : Nat) (x0 x1 x2 x3 x4 x5 x6 x7 x8 : Int) (w : World) (h0 : w.cell? ⟨b, 0, none⟩ = some (.int .i64 x0)) (h1 : w.cell? ⟨b, 1, none⟩ = some (.int .i64 x1)) (h2 : w.cell? ⟨b, 2, none⟩ = some (.int .i64 x2)) (h3 : w.cell? ⟨b, 3, none⟩ = some (.int .i64 x3)) (h4 : w.cell? ⟨b, 4, none⟩ = some (.int .i64 x4)) (h5 : w.cell? ⟨b, 5, none⟩ = some (.int .i64 x5)) (h6 : w.cell? ⟨b, 6, none⟩ = some (.int .i64 x6)) (h7 : w.cell? ⟨b, 7, none⟩ = some (.int .i64 x7)) (h8 : w.cell? ⟨b, 8, none⟩ = some (.int .i64 x8)) :
    Calls Try.prog 74 #[.slice (some ⟨b, 0, none⟩) 9 cap] w fun e w' => e = .returned (.int .i64 (orE x0 (orE x1 (orE x2 (orE x3 (orE x4 (orE x5 (orE x6 (orE x7 x8))))))))) ∧ w = w' := by
  refine (first_any b 0 cap 9 (fun i => match i with | 0 => x0 | 1 => x1 | 2 => x2 | 3 => x3 | 4 => x4 | 5 => x5 | 6 => x6 | 7 => x7 | _ => x8) w (by decide) ?_).mono ?_
  · intro i hi
    match i, hi with
    | 0, _ => simpa using h0
    | 1, _ => simpa using h1
    | 2, _ => simpa using h2
    | 3, _ => simpa using h3
    | 4, _ => simpa using h4
    | 5, _ => simpa using h5
    | 6, _ => simpa using h6
    | 7, _ => simpa using h7
    | 8, _ => simpa using h8
  · rintro e w' ⟨rfl, rfl⟩
    exact ⟨ret_int (by simp only [firstNZ, orE_zero]), rfl⟩
theorem first_pl (b cap : Nat) (p : Pl) (w : World) (hb : Blk w b #[.int .i64 (eS p.s0 p.s1 1 100000), .int .i64 (eTab p.S.n p.S.F p.S.P), .int .i64 (eTab p.C.n p.C.F p.C.P), .int .i64 (eN p.ne 0 10000), .int .i64 (eN p.ed 0 1000000), .int .i64 (eN p.gr 1 1000), .int .i64 (eS p.lo p.hi 1 4000000), .int .i64 (eN p.sh 0 10000), .int .i64 (eN p.wi 0 1000000)] 36) :
    Calls Try.prog 74 #[.slice (some ⟨b, 0, none⟩) 9 cap] w fun e w' => e = .returned (.int .i64 (ePl p)) ∧ w = w' :=
  first_nine b cap _ _ _ _ _ _ _ _ _ w (hb.cell 0 rfl) (hb.cell 1 rfl) (hb.cell 2 rfl) (hb.cell 3 rfl) (hb.cell 4 rfl) (hb.cell 5 rfl) (hb.cell 6 rfl) (hb.cell 7 rfl) (hb.cell 8 rfl)

set_option maxHeartbeats 4000000 in
theorem check_any (p : Pl) (vS vC : Value) (w : World) (hS : TabAt w vS p.S) (hC : TabAt w vC p.C) :
    Calls Try.prog 30 #[.agg #[.int .i64 p.s0, .int .i64 p.s1, vS, vC, .int .i64 p.ne, .int .i64 p.ed, .int .i64 p.gr, .int .i64 p.lo, .int .i64 p.hi, .int .i64 p.sh, .int .i64 p.wi]] w fun e w' => e = .returned (.int .i64 (ePl p)) ∧ Below w.heap.size w w' := by
  have HS : Hid (∀ W, Below w.heap.size w W → Calls Try.prog 83 #[vS] W fun e w' => e = .returned (.int .i64 (eTab p.S.n p.S.F p.S.P)) ∧ Below W.heap.size W w') := fun W hW => table_any vS _ _ _ W (hS.later hW)
  have HC : Hid (∀ W, Below w.heap.size w W → Calls Try.prog 83 #[vC] W fun e w' => e = .returned (.int .i64 (eTab p.C.n p.C.F p.C.P)) ∧ Below W.heap.size W w') := fun W hW => table_any vC _ _ _ W (hC.later hW)
  clear hS hC
  have jP := Blk.new w #[.int .i64 p.s0, .int .i64 p.s1, vS, vC, .int .i64 p.ne, .int .i64 p.ed, .int .i64 p.gr, .int .i64 p.lo, .int .i64 p.hi, .int .i64 p.sh, .int .i64 p.wi] 26
  have jB : Below w.heap.size w (w.alloc (.cells #[.int .i64 p.s0, .int .i64 p.s1, vS, vC, .int .i64 p.ne, .int .i64 p.ed, .int .i64 p.gr, .int .i64 p.lo, .int .i64 p.hi, .int .i64 p.sh, .int .i64 p.wi] 26)) := by (repeat (first | exact Below.refl _ _ | assumption | refine Below.drew ?_ | refine Below.drewN ?_ _ | refine blT ?_ | refine blU ?_))
  go_enter Try.func30, Try.ntmps30
  go_wp2_with fail
  refine wp_region_held_drew (S := (fun w' => Blk w' w.heap.size #[.int .i64 p.s0, .int .i64 p.s1, vS, vC, .int .i64 p.ne, .int .i64 p.ed, .int .i64 p.gr, .int .i64 p.lo, .int .i64 p.hi, .int .i64 p.sh, .int .i64 p.wi] 26 ∧ Below w.heap.size w w')) (by kernel_rfl) ?_ (fun hH => ?_)
  · (try dsimp only); (exact ⟨jP.drew, jB.drew⟩)
  refine tkY 0 (some 3) ?_ ?_ ?_
  rotate_left
  · intro w hS0; (try dsimp only at hS0); obtain ⟨kP, _⟩ := hS0; obtain ⟨c0, c1, c2, c3, c4, c5, c6, c7, c8, c9, c10⟩ := kP.c11; have y1 := kP.lt;go_simp; (try with_reducible rfl)
  (try simp only [cq])
  refine tkY 1 (some 4) ?_ ?_ ?_
  rotate_left
  · intro w hS0; (try dsimp only at hS0); obtain ⟨kP, _⟩ := hS0; obtain ⟨c0, c1, c2, c3, c4, c5, c6, c7, c8, c9, c10⟩ := kP.c11; have y1 := kP.lt;go_simp; (try with_reducible rfl)
  (try simp only [cq])
  refine tkY 3 (some 6) ?_ ?_ ?_
  rotate_left
  · intro w hS0; (try dsimp only at hS0); obtain ⟨kP, _⟩ := hS0; obtain ⟨c0, c1, c2, c3, c4, c5, c6, c7, c8, c9, c10⟩ := kP.c11; have y1 := kP.lt;go_simp; (try with_reducible rfl)
  (try simp only [cq])
  refine tkY 4 (some 7) ?_ ?_ ?_
  rotate_left
  · intro w hS0; (try dsimp only at hS0); obtain ⟨kP, _⟩ := hS0; obtain ⟨c0, c1, c2, c3, c4, c5, c6, c7, c8, c9, c10⟩ := kP.c11; have y1 := kP.lt;go_simp; (try with_reducible rfl)
  (try simp only [cq])
  refine tkY 6 (some 9) ?_ ?_ ?_
  rotate_left
  · intro w hS0; (try dsimp only at hS0); obtain ⟨kP, _⟩ := hS0; obtain ⟨c0, c1, c2, c3, c4, c5, c6, c7, c8, c9, c10⟩ := kP.c11; have y1 := kP.lt;go_simp; (try with_reducible rfl)
  (try simp only [cq])
  refine tkY 7 (some 10) ?_ ?_ ?_
  rotate_left
  · intro w hS0; (try dsimp only at hS0); obtain ⟨kP, _⟩ := hS0; obtain ⟨c0, c1, c2, c3, c4, c5, c6, c7, c8, c9, c10⟩ := kP.c11; have y1 := kP.lt;go_simp; (try with_reducible rfl)
  (try simp only [cq])
  refine tkY 9 (some 12) ?_ ?_ ?_
  rotate_left
  · intro w hS0; (try dsimp only at hS0); obtain ⟨kP, _⟩ := hS0; obtain ⟨c0, c1, c2, c3, c4, c5, c6, c7, c8, c9, c10⟩ := kP.c11; have y1 := kP.lt;go_simp; (try with_reducible rfl)
  (try simp only [cq])
  refine tkY 10 (some 13) ?_ ?_ ?_
  rotate_left
  · intro w hS0; (try dsimp only at hS0); obtain ⟨kP, _⟩ := hS0; obtain ⟨c0, c1, c2, c3, c4, c5, c6, c7, c8, c9, c10⟩ := kP.c11; have y1 := kP.lt;go_simp; (try with_reducible rfl)
  (try simp only [cq])
  refine tkY 12 (some 15) ?_ ?_ ?_
  rotate_left
  · intro w hS0; (try dsimp only at hS0); obtain ⟨kP, _⟩ := hS0; obtain ⟨c0, c1, c2, c3, c4, c5, c6, c7, c8, c9, c10⟩ := kP.c11; have y1 := kP.lt;go_simp; (try with_reducible rfl)
  (try simp only [cq])
  refine tkY 13 (some 16) ?_ ?_ ?_
  rotate_left
  · intro w hS0; (try dsimp only at hS0); obtain ⟨kP, _⟩ := hS0; obtain ⟨c0, c1, c2, c3, c4, c5, c6, c7, c8, c9, c10⟩ := kP.c11; have y1 := kP.lt;go_simp; (try with_reducible rfl)
  (try simp only [cq])
  refine tkY 15 (some 18) ?_ ?_ ?_
  rotate_left
  · intro w hS0; (try dsimp only at hS0); obtain ⟨kP, _⟩ := hS0; obtain ⟨c0, c1, c2, c3, c4, c5, c6, c7, c8, c9, c10⟩ := kP.c11; have y1 := kP.lt;go_simp; (try with_reducible rfl)
  (try simp only [cq])
  refine tkY 16 (some 19) ?_ ?_ ?_
  rotate_left
  · intro w hS0; (try dsimp only at hS0); obtain ⟨kP, _⟩ := hS0; obtain ⟨c0, c1, c2, c3, c4, c5, c6, c7, c8, c9, c10⟩ := kP.c11; have y1 := kP.lt;go_simp; (try with_reducible rfl)
  (try simp only [cq])
  refine tkY 18 (some 21) ?_ ?_ ?_
  rotate_left
  · intro w hS0; (try dsimp only at hS0); obtain ⟨kP, _⟩ := hS0; obtain ⟨c0, c1, c2, c3, c4, c5, c6, c7, c8, c9, c10⟩ := kP.c11; have y1 := kP.lt;go_simp; (try with_reducible rfl)
  (try simp only [cq])
  refine tkY 19 (some 22) ?_ ?_ ?_
  rotate_left
  · intro w hS0; (try dsimp only at hS0); obtain ⟨kP, _⟩ := hS0; obtain ⟨c0, c1, c2, c3, c4, c5, c6, c7, c8, c9, c10⟩ := kP.c11; have y1 := kP.lt;go_simp; (try with_reducible rfl)
  (try simp only [cq])
  refine tkY 20 (some 23) ?_ ?_ ?_
  rotate_left
  · intro w hS0; (try dsimp only at hS0); obtain ⟨kP, _⟩ := hS0; obtain ⟨c0, c1, c2, c3, c4, c5, c6, c7, c8, c9, c10⟩ := kP.c11; have y1 := kP.lt;go_simp; (try with_reducible rfl)
  (try simp only [cq])
  refine tkY 21 (some 24) ?_ ?_ ?_
  rotate_left
  · intro w hS0; (try dsimp only at hS0); obtain ⟨kP, _⟩ := hS0; obtain ⟨c0, c1, c2, c3, c4, c5, c6, c7, c8, c9, c10⟩ := kP.c11; have y1 := kP.lt;go_simp; (try with_reducible rfl)
  (try simp only [cq])
  refine tkY 22 (some 25) ?_ ?_ ?_
  rotate_left
  · intro w _; go_simp; (try with_reducible rfl)
  (try simp only [cq])
  refine tkY 24 (some 27) ?_ ?_ ?_
  rotate_left
  · intro w hS0; (try dsimp only at hS0); obtain ⟨kP, _⟩ := hS0; obtain ⟨c0, c1, c2, c3, c4, c5, c6, c7, c8, c9, c10⟩ := kP.c11; have y1 := kP.lt;go_simp; (try with_reducible rfl)
  (try simp only [cq])
  refine tkY 25 (some 28) ?_ ?_ ?_
  rotate_left
  · intro w hS0; (try dsimp only at hS0); obtain ⟨kP, _⟩ := hS0; obtain ⟨c0, c1, c2, c3, c4, c5, c6, c7, c8, c9, c10⟩ := kP.c11; have y1 := kP.lt;go_simp; (try with_reducible rfl)
  (try simp only [cq])
  refine tkY 27 (some 30) ?_ ?_ ?_
  rotate_left
  · intro w hS0; (try dsimp only at hS0); obtain ⟨kP, _⟩ := hS0; obtain ⟨c0, c1, c2, c3, c4, c5, c6, c7, c8, c9, c10⟩ := kP.c11; have y1 := kP.lt;go_simp; (try with_reducible rfl)
  (try simp only [cq])
  refine tkY 28 (some 31) ?_ ?_ ?_
  rotate_left
  · intro w hS0; (try dsimp only at hS0); obtain ⟨kP, _⟩ := hS0; obtain ⟨c0, c1, c2, c3, c4, c5, c6, c7, c8, c9, c10⟩ := kP.c11; have y1 := kP.lt;go_simp; (try with_reducible rfl)
  (try simp only [cq])
  refine wpAnyH_ready (rs := [2]) (by kernel_rfl) (by simp) ?_
  refine arc1 (some 5) fun K hK => ?_
  go_simp
  (refine (span_any _ _ _ _ _).mono ?_; rintro e w' ⟨rfl, hb⟩)
  refine hK.out _ _ ?_ ?_
  · (exact ⟨hH.1.call hb, bwS hH.2 (Nat.le_refl _) hb⟩)
  (try clear hH); (try clear hb)
  intro hH
  clear hK K
  (try simp only [cq])
  refine wpAnyH_ready (rs := [5]) (by kernel_rfl) (by simp) ?_
  refine arc1 (some 8) fun K hK => ?_
  go_simp
  (refine (HS.out _ hH.2).mono ?_; rintro e w' ⟨rfl, hb⟩)
  refine hK.out _ _ ?_ ?_
  · (exact ⟨hH.1.call hb, bwS hH.2 (Nat.le_refl _) hb⟩)
  (try clear hH); (try clear hb)
  intro hH
  clear hK K
  (try simp only [cq])
  refine wpAnyH_ready (rs := [8]) (by kernel_rfl) (by simp) ?_
  refine arc1 (some 11) fun K hK => ?_
  go_simp
  (refine (HC.out _ hH.2).mono ?_; rintro e w' ⟨rfl, hb⟩)
  refine hK.out _ _ ?_ ?_
  · (exact ⟨hH.1.call hb, bwS hH.2 (Nat.le_refl _) hb⟩)
  (try clear hH); (try clear hb)
  intro hH
  clear hK K
  (try simp only [cq])
  refine wpAnyH_ready (rs := [11]) (by kernel_rfl) (by simp) ?_
  refine arc1 (some 14) fun K hK => ?_
  go_simp
  (refine (number_any _ _ _ _).mono ?_; rintro e w' ⟨rfl, rfl⟩)
  refine hK.out _ _ ?_ ?_
  · exact hH
  (try clear hH); (try clear hb)
  intro hH
  clear hK K
  (try simp only [cq])
  refine wpAnyH_ready (rs := [14]) (by kernel_rfl) (by simp) ?_
  refine arc1 (some 17) fun K hK => ?_
  go_simp
  (refine (number_any _ _ _ _).mono ?_; rintro e w' ⟨rfl, rfl⟩)
  refine hK.out _ _ ?_ ?_
  · exact hH
  (try clear hH); (try clear hb)
  intro hH
  clear hK K
  (try simp only [cq])
  refine wpAnyH_ready (rs := [17]) (by kernel_rfl) (by simp) ?_
  refine arc1 (some 20) fun K hK => ?_
  go_simp
  (refine (number_any _ _ _ _).mono ?_; rintro e w' ⟨rfl, rfl⟩)
  refine hK.out _ _ ?_ ?_
  · exact hH
  (try clear hH); (try clear hb)
  intro hH
  clear hK K
  (try simp only [cq])
  refine wpAnyH_ready (rs := [23]) (by kernel_rfl) (by simp) ?_
  refine arc1 (some 26) fun K hK => ?_
  go_simp
  (refine (span_any _ _ _ _ _).mono ?_; rintro e w' ⟨rfl, hb⟩)
  refine hK.out _ _ ?_ ?_
  · (exact ⟨hH.1.call hb, bwS hH.2 (Nat.le_refl _) hb⟩)
  (try clear hH); (try clear hb)
  intro hH
  clear hK K
  (try simp only [cq])
  refine wpAnyH_ready (rs := [26]) (by kernel_rfl) (by simp) ?_
  refine arc1 (some 29) fun K hK => ?_
  go_simp
  (refine (number_any _ _ _ _).mono ?_; rintro e w' ⟨rfl, rfl⟩)
  refine hK.out _ _ ?_ ?_
  · exact hH
  (try clear hH); (try clear hb)
  intro hH
  clear hK K
  (try simp only [cq])
  refine wpAnyH_ready (rs := [29]) (by kernel_rfl) (by simp) ?_
  refine arc1 (some 32) fun K hK => ?_
  go_simp
  (refine (number_any _ _ _ _).mono ?_; rintro e w' ⟨rfl, rfl⟩)
  refine hK.out _ _ ?_ ?_
  · exact hH
  (try clear hH); (try clear hb)
  intro hH
  clear hK K
  (try simp only [cq])
  refine wpAnyH_ready (rs := [30]) (by kernel_rfl) (by simp) ?_
  refine arc1 (some 33) fun K hK => ?_
  have hpre := hH
  go_simp
  refine hK.out _ _ ?_ ?_
  · exact ⟨hH.1.alloc _, bwA hH.2 (Nat.le_refl _) _⟩
  (try clear hH); (try clear hb)
  intro hH
  clear hK K
  (try simp only [cq])
  refine wpAnyH_ready (rs := [31]) (by kernel_rfl) (by simp) ?_
  refine arc1 (some 34) fun K hK => ?_
  go_simp
  (refine (first_pl _ _ p _ (Blk.new _ _ _)).mono ?_; rintro e w' ⟨rfl, rfl⟩)
  refine hK.out _ _ ?_ ?_
  · exact hH
  (try clear hH); (try clear hb)
  intro hH
  clear hK K
  (try simp only [cq])
  refine tkY 32 (some 2) ?_ ?_ ?_
  rotate_left
  · intro w _; go_simp; (try with_reducible rfl)
  (try simp only [cq])
  refine wpAnyH_done (by kernel_rfl) ?_ _
  (try dsimp only [Act.put])
  (try simp only [cq])
  have hBB := hH.2
  clear hH
  go_wp2
  go_ret
  exact ⟨rfl, hBB⟩
end Go.Proofs.Ytkkljbbgaogifaa

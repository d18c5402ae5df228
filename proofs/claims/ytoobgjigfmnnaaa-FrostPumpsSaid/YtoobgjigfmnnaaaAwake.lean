/-
  awake says yes.
-/
import Derived.Test.YtoobgjigfmnnaaaEx2
set_option linter.unusedVariables false
set_option linter.unusedSimpArgs false
namespace Go.Proofs.Ytoobgjigfmnnaaa
open Go.RowKit

set_option maxRecDepth 100000 in
set_option maxHeartbeats 4000000 in
theorem awake_any (w : World) :
    Calls Try.prog 14 #[] w fun e w' => e = .returned (.bool true) ∧ Below w.heap.size w w' := by
  go_enter Try.func14, Try.ntmps14
  go_wp2_with fail
  refine (llaw_any _).mono ?_
  rintro e w1 ⟨c, rfl, hcc, jC, jB⟩
  go_wp2_with fail
  refine (lblack_any _).mono ?_
  rintro e w2 ⟨rfl, hb⟩
  replace jC := jC.call hb
  replace jB := below_step jB (Nat.le_refl _) hb
  clear hb
  go_wp2_with fail
  refine (lday_any _ _ _ _).mono ?_
  rintro e w3 ⟨rfl, hb⟩
  replace jC := jC.call hb
  replace jB := below_step jB (Nat.le_refl _) hb
  clear hb
  go_wp2_with fail
  refine (Step_ex c _ jC).mono ?_
  rintro e w4 ⟨rfl, hb⟩
  replace jB := below_step jB (Nat.le_refl _) hb
  clear hb jC hcc
  have z4 : w.heap.size ≤ w4.heap.size := jB.size
  go_wp2_with fail
  have jA := Blk.new w4 #[.int .i64 325, .int .i64 326, .int .i64 0, .int .i64 0, .int .i64 0, .int .i64 0, .int .i64 0, .int .i64 0] 28
  refine (llaw_any _).mono ?_
  rintro e w5 ⟨c', rfl, hcc, jC, hb⟩
  replace jA := jA.call hb
  replace jB := below_step (below_alloc jB (Nat.le_refl _) _) (Nat.le_refl _) hb
  clear hb
  go_wp2_with fail
  refine (lblack_any _).mono ?_
  rintro e w6 ⟨rfl, hb⟩
  replace jA := jA.call hb
  replace jC := jC.call hb
  replace jB := below_step jB (Nat.le_refl _) hb
  clear hb
  go_wp2_with fail
  refine (lday_any _ _ _ _).mono ?_
  rintro e w7 ⟨rfl, hb⟩
  replace jA := jA.call hb
  replace jC := jC.call hb
  replace jB := below_step jB (Nat.le_refl _) hb
  clear hb
  go_wp2_with fail
  refine (lday_any _ _ _ _).mono ?_
  rintro e w8 ⟨rfl, hb⟩
  replace jA := jA.call hb
  replace jC := jC.call hb
  replace jB := below_step jB (Nat.le_refl _) hb
  clear hb
  go_wp2_with fail
  refine (lday_any _ _ _ _).mono ?_
  rintro e w9 ⟨rfl, hb⟩
  replace jA := jA.call hb
  replace jC := jC.call hb
  replace jB := below_step jB (Nat.le_refl _) hb
  clear hb
  go_wp2_with fail
  refine (Ready_ex c' _ _ (jC.alloc _) (Blk.new w9 exDC3 30)).mono ?_
  rintro e w10 ⟨rfl, hb⟩
  replace jA := (jA.alloc _).call hb
  replace jB := below_step (below_alloc jB (Nat.le_refl _) _) (Nat.le_refl _) hb
  clear hb jC hcc
  generalize hbA : w4.heap.size = bA at jA
  go_wp2_with fail
  have HQ : Hid (∀ W, Calls Try.prog 26 #[.int .i64 99] W fun e w' => e = .returned (.int .i64 9) ∧ W = w') := fun W => by
    have e9 : rtI 99 = 9 := rtI_is 99 9 (by decide) (by decide)
    have h := root_any 99 W (by decide)
    rw [e9] at h
    exact h
  clear hbA z4
  refine wp_region_held_drew (S := (fun w' => Blk w' bA #[.int .i64 325, .int .i64 326, .int .i64 0, .int .i64 0, .int .i64 0, .int .i64 0, .int .i64 0, .int .i64 0] 28 ∧ Below w.heap.size w w')) (by kernel_rfl) ?_ (fun hHeld => ?_)
  · (try dsimp only); (exact ⟨jA, jB.drew⟩)
  refine wpAnyH_take (i := 0) (oi := { dst := some 24, op := _, type := _, pos := _, after := _, guard := _ }) (v := ?_) rfl (by kernel_rfl) (by kernel_rfl) (by kernel_rfl) (fun _ _ _ h => h) (Or.inl ⟨by rfl, ?_⟩) (by assumption) ?_
  rotate_left
  · intro w hSw; (try dsimp only at hSw); obtain ⟨kA, _⟩ := hSw; obtain ⟨a0, a1, a2, a3, a4, a5, a6, a7⟩ := kA.c8;go_simp; (try with_reducible rfl)
  (try simp only [Act.put, List.setIfInBounds_toArray, List.set_cons_zero, List.set_cons_succ])
  refine wpAnyH_take (i := 1) (oi := { dst := some 25, op := _, type := _, pos := _, after := _, guard := _ }) (v := ?_) rfl (by kernel_rfl) (by kernel_rfl) (by kernel_rfl) (fun _ _ _ h => h) (Or.inl ⟨by rfl, ?_⟩) (by assumption) ?_
  rotate_left
  · intro w hSw; (try dsimp only at hSw); obtain ⟨kA, _⟩ := hSw; obtain ⟨a0, a1, a2, a3, a4, a5, a6, a7⟩ := kA.c8;go_simp; (try with_reducible rfl)
  (try simp only [Act.put, List.setIfInBounds_toArray, List.set_cons_zero, List.set_cons_succ])
  refine wpAnyH_take (i := 2) (oi := { dst := some 26, op := _, type := _, pos := _, after := _, guard := _ }) (v := ?_) rfl (by kernel_rfl) (by kernel_rfl) (by kernel_rfl) (fun _ _ _ h => h) (Or.inl ⟨by rfl, ?_⟩) (by assumption) ?_
  rotate_left
  · intro w hSw; (try dsimp only at hSw); obtain ⟨kA, _⟩ := hSw; obtain ⟨a0, a1, a2, a3, a4, a5, a6, a7⟩ := kA.c8;go_simp; (try with_reducible rfl)
  (try simp only [Act.put, List.setIfInBounds_toArray, List.set_cons_zero, List.set_cons_succ])
  refine wpAnyH_take (i := 3) (oi := { dst := some 27, op := _, type := _, pos := _, after := _, guard := _ }) (v := ?_) rfl (by kernel_rfl) (by kernel_rfl) (by kernel_rfl) (fun _ _ _ h => h) (Or.inl ⟨by rfl, ?_⟩) (by assumption) ?_
  rotate_left
  · intro w hSw; (try dsimp only at hSw); obtain ⟨kA, _⟩ := hSw; obtain ⟨a0, a1, a2, a3, a4, a5, a6, a7⟩ := kA.c8;go_simp; (try with_reducible rfl)
  (try simp only [Act.put, List.setIfInBounds_toArray, List.set_cons_zero, List.set_cons_succ])
  refine wpAnyH_take (i := 4) (oi := { dst := some 28, op := _, type := _, pos := _, after := _, guard := _ }) (v := ?_) rfl (by kernel_rfl) (by kernel_rfl) (by kernel_rfl) (fun _ _ _ h => h) (Or.inl ⟨by rfl, ?_⟩) (by assumption) ?_
  rotate_left
  · intro w hSw; (try dsimp only at hSw); obtain ⟨kA, _⟩ := hSw; obtain ⟨a0, a1, a2, a3, a4, a5, a6, a7⟩ := kA.c8;go_simp; (try with_reducible rfl)
  (try simp only [Act.put, List.setIfInBounds_toArray, List.set_cons_zero, List.set_cons_succ])
  refine wpAnyH_take (i := 5) (oi := { dst := some 29, op := _, type := _, pos := _, after := _, guard := _ }) (v := ?_) rfl (by kernel_rfl) (by kernel_rfl) (by kernel_rfl) (fun _ _ _ h => h) (Or.inl ⟨by rfl, ?_⟩) (by assumption) ?_
  rotate_left
  · intro w hSw; (try dsimp only at hSw); obtain ⟨kA, _⟩ := hSw; obtain ⟨a0, a1, a2, a3, a4, a5, a6, a7⟩ := kA.c8;go_simp; (try with_reducible rfl)
  (try simp only [Act.put, List.setIfInBounds_toArray, List.set_cons_zero, List.set_cons_succ])
  refine wpAnyH_take (i := 6) (oi := { dst := some 30, op := _, type := _, pos := _, after := _, guard := _ }) (v := ?_) rfl (by kernel_rfl) (by kernel_rfl) (by kernel_rfl) (fun _ _ _ h => h) (Or.inl ⟨by rfl, ?_⟩) (by assumption) ?_
  rotate_left
  · intro w hSw; (try dsimp only at hSw); obtain ⟨kA, _⟩ := hSw; obtain ⟨a0, a1, a2, a3, a4, a5, a6, a7⟩ := kA.c8;go_simp; (try with_reducible rfl)
  (try simp only [Act.put, List.setIfInBounds_toArray, List.set_cons_zero, List.set_cons_succ])
  refine wpAnyH_take (i := 7) (oi := { dst := some 31, op := _, type := _, pos := _, after := _, guard := _ }) (v := ?_) rfl (by kernel_rfl) (by kernel_rfl) (by kernel_rfl) (fun _ _ _ h => h) (Or.inl ⟨by rfl, ?_⟩) (by assumption) ?_
  rotate_left
  · intro w hSw; (try dsimp only at hSw); obtain ⟨kA, _⟩ := hSw; obtain ⟨a0, a1, a2, a3, a4, a5, a6, a7⟩ := kA.c8;go_simp; (try with_reducible rfl)
  (try simp only [Act.put, List.setIfInBounds_toArray, List.set_cons_zero, List.set_cons_succ])
  refine wpAnyH_ready (rs := [8]) (by kernel_rfl) (by simp) ?_
  refine AllReadyH.cons (o := { dst := some 32, op := _, type := _, pos := _, after := _, guard := _ }) rfl (fun K hK => ?_) AllReadyH.nil
  go_simp
  (refine (lspan_any _ _ _).mono ?_; rintro e w' ⟨rfl, hb⟩)
  refine hK.out _ _ ?_ (fun hHeld => ?_)
  · (exact ⟨hHeld.1.call hb, below_step hHeld.2 (Nat.le_refl _) hb⟩)
  clear hK K
  (try simp only [Act.put, List.setIfInBounds_toArray, List.set_cons_zero, List.set_cons_succ])
  refine wpAnyH_take (i := 9) (oi := { dst := some 33, op := _, type := _, pos := _, after := _, guard := _ }) (v := ?_) rfl (by kernel_rfl) (by kernel_rfl) (by kernel_rfl) (fun _ _ _ h => h) (Or.inl ⟨by rfl, ?_⟩) (by assumption) ?_
  rotate_left
  · intro w hSw; (try dsimp only at hSw); obtain ⟨kA, _⟩ := hSw; obtain ⟨a0, a1, a2, a3, a4, a5, a6, a7⟩ := kA.c8;go_simp; (try with_reducible rfl)
  (try simp only [Act.put, List.setIfInBounds_toArray, List.set_cons_zero, List.set_cons_succ])
  refine wpAnyH_take (i := 10) (oi := { dst := some 34, op := _, type := _, pos := _, after := _, guard := _ }) (v := ?_) rfl (by kernel_rfl) (by kernel_rfl) (by kernel_rfl) (fun _ _ _ h => h) (Or.inl ⟨by rfl, ?_⟩) (by assumption) ?_
  rotate_left
  · intro w hSw; (try dsimp only at hSw); obtain ⟨kA, _⟩ := hSw; obtain ⟨a0, a1, a2, a3, a4, a5, a6, a7⟩ := kA.c8;go_simp; (try with_reducible rfl)
  (try simp only [Act.put, List.setIfInBounds_toArray, List.set_cons_zero, List.set_cons_succ])
  refine wpAnyH_take (i := 11) (oi := { dst := some 35, op := _, type := _, pos := _, after := _, guard := _ }) (v := ?_) rfl (by kernel_rfl) (by kernel_rfl) (by kernel_rfl) (fun _ _ _ h => h) (Or.inl ⟨by rfl, ?_⟩) (by assumption) ?_
  rotate_left
  · intro w hSw; (try dsimp only at hSw); obtain ⟨kA, _⟩ := hSw; obtain ⟨a0, a1, a2, a3, a4, a5, a6, a7⟩ := kA.c8;go_simp; (try with_reducible rfl)
  (try simp only [Act.put, List.setIfInBounds_toArray, List.set_cons_zero, List.set_cons_succ])
  refine wpAnyH_take (i := 12) (oi := { dst := some 36, op := _, type := _, pos := _, after := _, guard := _ }) (v := ?_) rfl (by kernel_rfl) (by kernel_rfl) (by kernel_rfl) (fun _ _ _ h => h) (Or.inl ⟨by rfl, ?_⟩) (by assumption) ?_
  rotate_left
  · intro w hSw; (try dsimp only at hSw); obtain ⟨kA, _⟩ := hSw; obtain ⟨a0, a1, a2, a3, a4, a5, a6, a7⟩ := kA.c8;go_simp; (try with_reducible rfl)
  (try simp only [Act.put, List.setIfInBounds_toArray, List.set_cons_zero, List.set_cons_succ])
  refine wpAnyH_take (i := 13) (oi := { dst := some 37, op := _, type := _, pos := _, after := _, guard := _ }) (v := ?_) rfl (by kernel_rfl) (by kernel_rfl) (by kernel_rfl) (fun _ _ _ h => h) (Or.inl ⟨by rfl, ?_⟩) (by assumption) ?_
  rotate_left
  · intro w hSw; (try dsimp only at hSw); obtain ⟨kA, _⟩ := hSw; obtain ⟨a0, a1, a2, a3, a4, a5, a6, a7⟩ := kA.c8;go_simp; (try with_reducible rfl)
  (try simp only [Act.put, List.setIfInBounds_toArray, List.set_cons_zero, List.set_cons_succ])
  refine wpAnyH_take (i := 14) (oi := { dst := some 38, op := _, type := _, pos := _, after := _, guard := _ }) (v := ?_) rfl (by kernel_rfl) (by kernel_rfl) (by kernel_rfl) (fun _ _ _ h => h) (Or.inl ⟨by rfl, ?_⟩) (by assumption) ?_
  rotate_left
  · intro w hSw; (try dsimp only at hSw); obtain ⟨kA, _⟩ := hSw; obtain ⟨a0, a1, a2, a3, a4, a5, a6, a7⟩ := kA.c8;go_simp; (try with_reducible rfl)
  (try simp only [Act.put, List.setIfInBounds_toArray, List.set_cons_zero, List.set_cons_succ])
  refine wpAnyH_take (i := 15) (oi := { dst := some 39, op := _, type := _, pos := _, after := _, guard := _ }) (v := ?_) rfl (by kernel_rfl) (by kernel_rfl) (by kernel_rfl) (fun _ _ _ h => h) (Or.inl ⟨by rfl, ?_⟩) (by assumption) ?_
  rotate_left
  · intro w hSw; (try dsimp only at hSw); obtain ⟨kA, _⟩ := hSw; obtain ⟨a0, a1, a2, a3, a4, a5, a6, a7⟩ := kA.c8;go_simp; (try with_reducible rfl)
  (try simp only [Act.put, List.setIfInBounds_toArray, List.set_cons_zero, List.set_cons_succ])
  refine wpAnyH_take (i := 16) (oi := { dst := some 40, op := _, type := _, pos := _, after := _, guard := _ }) (v := ?_) rfl (by kernel_rfl) (by kernel_rfl) (by kernel_rfl) (fun _ _ _ h => h) (Or.inl ⟨by rfl, ?_⟩) (by assumption) ?_
  rotate_left
  · intro w hSw; (try dsimp only at hSw); obtain ⟨kA, _⟩ := hSw; obtain ⟨a0, a1, a2, a3, a4, a5, a6, a7⟩ := kA.c8;go_simp; (try with_reducible rfl)
  (try simp only [Act.put, List.setIfInBounds_toArray, List.set_cons_zero, List.set_cons_succ])
  refine wpAnyH_take (i := 17) (oi := { dst := some 41, op := _, type := _, pos := _, after := _, guard := _ }) (v := ?_) rfl (by kernel_rfl) (by kernel_rfl) (by kernel_rfl) (fun _ _ _ h => h) (Or.inl ⟨by rfl, ?_⟩) (by assumption) ?_
  rotate_left
  · intro w hSw; (try dsimp only at hSw); obtain ⟨kA, _⟩ := hSw; obtain ⟨a0, a1, a2, a3, a4, a5, a6, a7⟩ := kA.c8;go_simp; (try with_reducible rfl)
  (try simp only [Act.put, List.setIfInBounds_toArray, List.set_cons_zero, List.set_cons_succ])
  refine wpAnyH_take (i := 18) (oi := { dst := some 42, op := _, type := _, pos := _, after := _, guard := _ }) (v := ?_) rfl (by kernel_rfl) (by kernel_rfl) (by kernel_rfl) (fun _ _ _ h => h) (Or.inl ⟨by rfl, ?_⟩) (by assumption) ?_
  rotate_left
  · intro w hSw; (try dsimp only at hSw); obtain ⟨kA, _⟩ := hSw; obtain ⟨a0, a1, a2, a3, a4, a5, a6, a7⟩ := kA.c8;go_simp; (try with_reducible rfl)
  (try simp only [Act.put, List.setIfInBounds_toArray, List.set_cons_zero, List.set_cons_succ])
  refine wpAnyH_take (i := 19) (oi := { dst := some 43, op := _, type := _, pos := _, after := _, guard := _ }) (v := ?_) rfl (by kernel_rfl) (by kernel_rfl) (by kernel_rfl) (fun _ _ _ h => h) (Or.inl ⟨by rfl, ?_⟩) (by assumption) ?_
  rotate_left
  · intro w hSw; (try dsimp only at hSw); obtain ⟨kA, _⟩ := hSw; obtain ⟨a0, a1, a2, a3, a4, a5, a6, a7⟩ := kA.c8;go_simp; (try with_reducible rfl)
  (try simp only [Act.put, List.setIfInBounds_toArray, List.set_cons_zero, List.set_cons_succ])
  refine wpAnyH_take (i := 20) (oi := { dst := some 44, op := _, type := _, pos := _, after := _, guard := _ }) (v := ?_) rfl (by kernel_rfl) (by kernel_rfl) (by kernel_rfl) (fun _ _ _ h => h) (Or.inl ⟨by rfl, ?_⟩) (by assumption) ?_
  rotate_left
  · intro w hSw; (try dsimp only at hSw); obtain ⟨kA, _⟩ := hSw; obtain ⟨a0, a1, a2, a3, a4, a5, a6, a7⟩ := kA.c8;go_simp; (try with_reducible rfl)
  (try simp only [Act.put, List.setIfInBounds_toArray, List.set_cons_zero, List.set_cons_succ])
  refine wpAnyH_ready (rs := [21]) (by kernel_rfl) (by simp) ?_
  refine AllReadyH.cons (o := { dst := some 45, op := _, type := _, pos := _, after := _, guard := _ }) rfl (fun K hK => ?_) AllReadyH.nil
  go_simp
  (refine (HQ.out _).mono ?_; rintro e w' ⟨rfl, rfl⟩; have hb := Below.refl w'.heap.size w')
  refine hK.out _ _ ?_ (fun hHeld => ?_)
  · (exact ⟨hHeld.1.call hb, below_step hHeld.2 (Nat.le_refl _) hb⟩)
  clear hK K
  (try simp only [Act.put, List.setIfInBounds_toArray, List.set_cons_zero, List.set_cons_succ])
  refine wpAnyH_take (i := 22) (oi := { dst := some 46, op := _, type := _, pos := _, after := _, guard := _ }) (v := ?_) rfl (by kernel_rfl) (by kernel_rfl) (by kernel_rfl) (fun _ _ _ h => h) (Or.inl ⟨by rfl, ?_⟩) (by assumption) ?_
  rotate_left
  · intro w hSw; (try dsimp only at hSw); obtain ⟨kA, _⟩ := hSw; obtain ⟨a0, a1, a2, a3, a4, a5, a6, a7⟩ := kA.c8;go_simp; (try with_reducible rfl)
  (try simp only [Act.put, List.setIfInBounds_toArray, List.set_cons_zero, List.set_cons_succ])
  refine wpAnyH_take (i := 23) (oi := { dst := some 47, op := _, type := _, pos := _, after := _, guard := _ }) (v := ?_) rfl (by kernel_rfl) (by kernel_rfl) (by kernel_rfl) (fun _ _ _ h => h) (Or.inl ⟨by rfl, ?_⟩) (by assumption) ?_
  rotate_left
  · intro w hSw; (try dsimp only at hSw); obtain ⟨kA, _⟩ := hSw; obtain ⟨a0, a1, a2, a3, a4, a5, a6, a7⟩ := kA.c8;go_simp; (try with_reducible rfl)
  (try simp only [Act.put, List.setIfInBounds_toArray, List.set_cons_zero, List.set_cons_succ])
  refine wpAnyH_take (i := 24) (oi := { dst := some 0, op := _, type := _, pos := _, after := _, guard := _ }) (v := ?_) rfl (by kernel_rfl) (by kernel_rfl) (by kernel_rfl) (fun _ _ _ h => h) (Or.inl ⟨by rfl, ?_⟩) (by assumption) ?_
  rotate_left
  · intro w hSw; (try dsimp only at hSw); obtain ⟨kA, _⟩ := hSw; obtain ⟨a0, a1, a2, a3, a4, a5, a6, a7⟩ := kA.c8;go_simp; (try with_reducible rfl)
  (try simp only [Act.put, List.setIfInBounds_toArray, List.set_cons_zero, List.set_cons_succ])
  refine wpAnyH_done (by kernel_rfl) ?_ _
  (try dsimp only [Act.put])
  (try simp only [Act.put, List.setIfInBounds_toArray, List.set_cons_zero, List.set_cons_succ])
  have hBB : Below w.heap.size w _ := hHeld.2
  clear hHeld
  go_wp2
  go_ret
  exact ⟨rfl, hBB⟩
end Go.Proofs.Ytoobgjigfmnnaaa

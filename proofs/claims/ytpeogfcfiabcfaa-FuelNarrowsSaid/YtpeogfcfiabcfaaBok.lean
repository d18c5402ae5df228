/-
  Small parts of BookOf (sastrugikit): around, Wrap, Yes.
-/
import Derived.Test.YtpeogfcfiabcfaaOf
import Derived.Test.YtpeogfcfiabcfaaCol
import Derived.Test.YtpeogfcfiabcfaaCon
set_option linter.unusedVariables false
set_option linter.unusedSimpArgs false
namespace Go.Proofs.Ytpeogfcfiabcfaa
open Go.RowKit

theorem cells2 {W : World} {b : Nat} {x y : Int} {t : TypeId} (k : Blk W b #[.int .i64 x, .int .i64 y] t) : ∀ i, i < 2 → W.cell? ⟨b, 0 + i, none⟩ = some (.int .i64 ([x, y].getD i 0)) := by
  intro i hi
  obtain rfl | rfl : i = 0 ∨ i = 1 := by omega
  · exact k.cell 0 rfl
  · exact k.cell 1 rfl
theorem pick2 {x y m : Int} (hx : 0 ≤ x ∧ x ≤ m) (hy : 0 ≤ y ∧ y ≤ m) : ∀ i, i < 2 → 0 ≤ [x, y].getD i 0 ∧ [x, y].getD i 0 ≤ m := by
  intro i hi
  obtain rfl | rfl : i = 0 ∨ i = 1 := by omega
  · exact hx
  · exact hy
theorem seed_ne {W : World} {b bs : Nat} {C : Array Value} {t : TypeId} (h : Blk W b C t) (hs : SeedAt bs W) (ht : t ≠ 101) : b ≠ bs := by
  rintro rfl
  obtain ⟨u, hu⟩ := hs
  unfold Blk at h hu
  rw [h] at hu
  simp at hu
  exact ht hu.2
theorem two_drawn {W W' : World} {b bs : Nat} {t : TypeId} (h : Two W b t) (hd : Drawn bs W W') (hne : b ≠ bs) : Two W' b t := by
  obtain ⟨x, y, k⟩ := h
  exact ⟨x, y, hd.blk k hne⟩
theorem yes_in (n : Int) (bs : Nat) (w : World) (hs : SeedAt bs w) (hn : n ≤ 9223372036854775807) :
    Calls Try.prog 27 #[.pointer (some ⟨bs, 0, none⟩), .int .i64 n] w fun e w' => ∃ b : Bool, e = .returned (.bool b) ∧ Drawn bs w w' := by
  go_enter Try.func27, Try.ntmps27
  go_wp2_with fail
  refine (below_in n bs _ hs hn).mono ?_
  rintro e w1 ⟨v, rfl, v0, v1, hd⟩
  cases h : (v == 0) with
  | true =>
    go_wp2
    go_ret
    exact ⟨true, by simp [h], hd⟩
  | false =>
    go_wp2
    go_ret
    exact ⟨false, by simp [h], hd⟩
set_option maxHeartbeats 1000000 in
theorem wrap_any (x n : Int) (hn : 2 ≤ n) (hn2 : n ≤ 1000000) (hx : 0 ≤ x) (hx2 : x ≤ 1000000) (w : World) :
    Calls Try.prog 61 #[.int .i64 x, .int .i64 n] w fun e w' => e = .returned (.int .i64 (x % n)) ∧ w = w' := by
  have h0 : ¬ n < 2 := by omega
  have h1 : (n == 0) = false := by simp; omega
  have h1' : ¬ n = 0 := by omega
  have b1 := Int.emod_nonneg x h1'
  have b2 := Int.emod_lt_of_pos x (show 0 < n by omega)
  have e1 : x.tmod n = x % n := Int.tmod_eq_emod_of_nonneg hx
  have e2 : (x % n + n).tmod n = x % n := by
    rw [Int.tmod_eq_emod_of_nonneg (by omega), Int.add_emod_right, Int.emod_emod]
  have w1 : IntKind.i64.wrap (x % n) = x % n := IntWalk.i64_in _ (by omega)
  have w2 : IntKind.i64.wrap (x % n + n) = x % n + n := IntWalk.i64_in _ (by omega)
  clear b1 b2
  go_enter Try.func61, Try.ntmps61
  go_wp2
  go_ret
  exact ⟨rfl, rfl⟩
set_option maxRecDepth 100000 in
set_option maxHeartbeats 4000000 in
theorem around_in (n wide : Int) (bs : Nat) (w : World) (hs : SeedAt bs w) (h0 : 0 ≤ n) (h1 : n ≤ 1000000000) (w0 : 0 ≤ wide) (w1 : wide ≤ 1000000) :
    Calls Try.prog 81 #[.pointer (some ⟨bs, 0, none⟩), .int .i64 n, .int .i64 wide] w fun e w' => ∃ x y, e = .returned (.agg #[.int .i64 x, .int .i64 y]) ∧ 0 ≤ x ∧ x ≤ n ∧ n ≤ y ∧ y ≤ n + wide ∧ Drawn bs w w' := by
  have hbs : bs < w.heap.size := hs.choose_spec.lt
  have jR := Blk.new w #[.int .i64 0, .int .i64 0] 26
  have hD := Drawn.alloc hs (.cells #[.int .i64 0, .int .i64 0] 26)
  have e1 : IntKind.i64.wrap (wide + 1) = wide + 1 := IntWalk.i64_in _ (by omega)
  go_enter Try.func81, Try.ntmps81
  go_wp2_with fail
  refine (below_in (wide + 1) bs _ hD.seed (by omega)).mono ?_
  rintro e w2 ⟨p, rfl, p0, p1, hd⟩
  replace p1 : p ≤ wide := by omega
  replace jR := hd.blk jR (by omega)
  replace hD := hD.trans hd
  clear hd
  have kA := Blk.new w2 #[.int .i64 0, .int .i64 p] 3
  replace jR := jR.alloc (.cells #[.int .i64 0, .int .i64 p] 3)
  replace hD := hD.new (.cells #[.int .i64 0, .int .i64 p] 3)
  go_wp2_with fail
  refine (of_in w2.heap.size 0 2 2 (fun i => [0, p].getD i 0) bs _ hD.seed (seed_ne kA hD.seed (by decide)) (by omega) (by omega) (cells2 kA)).mono ?_
  rintro e w2' ⟨j, hj, rfl, hd⟩
  have hp3b := pick2 (m := wide) (show (0 : Int) ≤ 0 ∧ (0 : Int) ≤ wide by omega) (show 0 ≤ p ∧ p ≤ wide by omega) j hj
  obtain ⟨p3, hp3⟩ : ∃ z, [0, p].getD j 0 = z := ⟨_, rfl⟩
  rw [hp3] at hp3b ⊢
  replace jR := hd.blk jR (by omega)
  replace hD := hD.trans hd
  clear hp3 kA hd hj j
  have e2 : IntKind.i64.wrap (n - p3) = n - p3 := IntWalk.i64_in _ (by omega)
  go_wp2_with fail
  refine (below_in (wide + 1) bs _ hD.seed (by omega)).mono ?_
  rintro e w3 ⟨r, rfl, r0, r1, hd⟩
  replace r1 : r ≤ wide := by omega
  replace jR := hd.blk jR (by omega)
  replace hD := hD.trans hd
  clear hd
  have kA := Blk.new w3 #[.int .i64 0, .int .i64 r] 3
  replace jR := jR.alloc (.cells #[.int .i64 0, .int .i64 r] 3)
  replace hD := hD.new (.cells #[.int .i64 0, .int .i64 r] 3)
  go_wp2_with fail
  refine (of_in w3.heap.size 0 2 2 (fun i => [0, r].getD i 0) bs _ hD.seed (seed_ne kA hD.seed (by decide)) (by omega) (by omega) (cells2 kA)).mono ?_
  rintro e w3' ⟨j, hj, rfl, hd⟩
  have hr3b := pick2 (m := wide) (show (0 : Int) ≤ 0 ∧ (0 : Int) ≤ wide by omega) (show 0 ≤ r ∧ r ≤ wide by omega) j hj
  obtain ⟨r3, hr3⟩ : ∃ z, [0, r].getD j 0 = z := ⟨_, rfl⟩
  rw [hr3] at hr3b ⊢
  replace jR := hd.blk jR (by omega)
  replace hD := hD.trans hd
  clear hr3 kA hd hj j
  have e3 : IntKind.i64.wrap (n + r3) = n + r3 := IntWalk.i64_in _ (by omega)
  obtain ⟨r0', r1'⟩ := jR.c2
  have f0 := jR.free 0
  have f1 := jR.free 1
  have zR := jR.lt
  have KR := Lib.hid ((jR.set 0 (.int .i64 (max 0 (n - p3)))).set 1 (.int .i64 (n + r3)))
  have KD := Lib.hid ((hD.set (p := ⟨w.heap.size, 0, none⟩) (Nat.le_refl _) hbs (.int .i64 (max 0 (n - p3)))).set (p := ⟨w.heap.size, 1, none⟩) (Nat.le_refl _) hbs (.int .i64 (n + r3)))
  clear jR hD
  go_wp2_with fail
  obtain ⟨z0, z1⟩ := KR.out.c2
  exact bodyPost_ret (v := .agg #[.int .i64 (max 0 (n - p3)), .int .i64 (n + r3)]) (by simp [results, Try.results81, go_sem, z0, z1]) rfl ⟨_, _, rfl, by omega, by omega, by omega, by omega, KD.out⟩
end Go.Proofs.Ytpeogfcfiabcfaa

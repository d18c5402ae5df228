/-
  Standard at any input: the program's, the reference's.
  Standard of the reference, at any input.
-/
import Derived.Test.YtegdflikeoiaaaaTail
import Derived.Test.YtegdflikeoiaaaaStd
import Derived.Test.YtegdflikeoiaaaaRck
set_option linter.unusedVariables false
set_option linter.unusedSimpArgs false
namespace Go.Proofs.Ytegdflikeoiaaaa
open Go.RowKit

def eStd (l0 l1 b0 b1 t0 t1 : Int) : Int := orE (eLit l0 l1) (orE (eS b0 b1 0 200) (eTen t0 t1))
def stdA (l0 l1 b0 b1 t0 t1 : Int) : Int := if eStd l0 l1 b0 b1 t0 t1 = 0 then stLo l0 b0 b1 t0 t1 else 0
def stdB (l0 l1 b0 b1 t0 t1 : Int) : Int := if eStd l0 l1 b0 b1 t0 t1 = 0 then stHi l1 b0 b1 t0 t1 else 0
theorem first_std (b cap : Nat) (l0 l1 b0 b1 t0 t1 : Int) (w : World) (h0 : w.cell? ⟨b, 0, none⟩ = some (.int .i64 (eLit l0 l1))) (h1 : w.cell? ⟨b, 1, none⟩ = some (.int .i64 (eS b0 b1 0 200))) (h2 : w.cell? ⟨b, 2, none⟩ = some (.int .i64 (eTen t0 t1))) :
    Calls Try.prog 77 #[.slice (some ⟨b, 0, none⟩) 3 cap] w fun e w' => e = .returned (.int .i64 (eStd l0 l1 b0 b1 t0 t1)) ∧ w = w' := first_three b cap _ _ _ w h0 h1 h2
theorem eStd_zero {l0 l1 b0 b1 t0 t1 : Int} (h : eStd l0 l1 b0 b1 t0 t1 = 0) : (0 ≤ l0 ∧ l0 ≤ l1 ∧ l1 ≤ 1000000000) ∧ (0 ≤ b0 ∧ b0 ≤ b1 ∧ b1 ≤ 200) ∧ -1000 ≤ t0 ∧ t0 ≤ t1 ∧ t1 ≤ 1000 := by
  obtain ⟨h1, h2⟩ := orE_zero h
  obtain ⟨h3, h4⟩ := orE_zero h2
  exact ⟨eS_zero h1, eS_zero h3, eS_zero h4⟩
set_option maxRecDepth 100000 in
set_option maxHeartbeats 4000000 in
theorem std_any (l0 l1 b0 b1 t0 t1 : Int) (w : World) :
    Calls Try.prog 22 #[.agg #[.int .i64 l0, .int .i64 l1], .agg #[.int .i64 b0, .int .i64 b1], .agg #[.int .i64 t0, .int .i64 t1]] w fun e w' => e = .returned (.tuple #[.agg #[.int .i64 (stdA l0 l1 b0 b1 t0 t1), .int .i64 (stdB l0 l1 b0 b1 t0 t1)], .int .i64 (eStd l0 l1 b0 b1 t0 t1)]) ∧ Below w.heap.size w w' := by
  have jL := ((((Blk.new w #[.int .i64 l0, .int .i64 l1] 26).alloc (.cells #[.int .i64 b0, .int .i64 b1] 26)).alloc (.cells #[.int .i64 t0, .int .i64 t1] 26))).alloc (.cells #[.int .i64 0, .int .i64 0] 26)
  have jX := (((Blk.new1 w (.cells #[.int .i64 l0, .int .i64 l1] 26) #[.int .i64 b0, .int .i64 b1] 26).alloc (.cells #[.int .i64 t0, .int .i64 t1] 26))).alloc (.cells #[.int .i64 0, .int .i64 0] 26)
  have jT := (Blk.new2 w (.cells #[.int .i64 l0, .int .i64 l1] 26) (.cells #[.int .i64 b0, .int .i64 b1] 26) #[.int .i64 t0, .int .i64 t1] 26).alloc (.cells #[.int .i64 0, .int .i64 0] 26)
  have jR := Blk.new2 (w.alloc (.cells #[.int .i64 l0, .int .i64 l1] 26)) (.cells #[.int .i64 b0, .int .i64 b1] 26) (.cells #[.int .i64 t0, .int .i64 t1] 26) #[.int .i64 0, .int .i64 0] 26
  simp only [World.size_alloc] at jR
  have jB : Below w.heap.size w ((((w.alloc (.cells #[.int .i64 l0, .int .i64 l1] 26)).alloc (.cells #[.int .i64 b0, .int .i64 b1] 26)).alloc (.cells #[.int .i64 t0, .int .i64 t1] 26)).alloc (.cells #[.int .i64 0, .int .i64 0] 26)) := by (repeat (first | exact Below.refl _ _ | assumption | refine Below.drew ?_ | refine Below.drewN ?_ _ | refine blT ?_ | refine blU ?_))
  go_enter Try.func22, Try.ntmps22
  go_wp2_with fail
  obtain ⟨U0, hU0⟩ : ∃ V, Blk.wld jL = V := ⟨_, rfl⟩
  simp only [Blk.wld] at hU0
  rw [hU0] at jL jX jT jR jB ⊢
  clear hU0
  refine wp_region_held_drew (S := (fun wx => Blk wx w.heap.size #[.int .i64 l0, .int .i64 l1] 26 ∧ Blk wx (w.heap.size + 1) #[.int .i64 b0, .int .i64 b1] 26 ∧ Blk wx (w.heap.size + 1 + 1) #[.int .i64 t0, .int .i64 t1] 26 ∧ Two wx (w.heap.size + 1 + 1 + 1) 26 ∧ Below w.heap.size w wx)) (by kernel_rfl) ?_ (fun hH => ?_)
  · (try dsimp only); (exact ⟨jL.drew, jX.drew, jT.drew, ⟨_, _, jR.drew⟩, jB.drew⟩)
  refine tkY 0 (some 9) ?_ ?_ ?_
  rotate_left
  · intro w hS0; (try dsimp only at hS0); obtain ⟨kL, kX, kT, _, _⟩ := hS0; obtain ⟨c0, c1⟩ := kL.c2; obtain ⟨d0, d1⟩ := kX.c2; obtain ⟨g0, g1⟩ := kT.c2; have y1 := kL.lt; have y2 := kX.lt; have y3 := kT.lt;go_simp; (try with_reducible rfl)
  (try simp only [cq])
  refine tkY 2 (some 11) ?_ ?_ ?_
  rotate_left
  · intro w hS0; (try dsimp only at hS0); obtain ⟨kL, kX, kT, _, _⟩ := hS0; obtain ⟨c0, c1⟩ := kL.c2; obtain ⟨d0, d1⟩ := kX.c2; obtain ⟨g0, g1⟩ := kT.c2; have y1 := kL.lt; have y2 := kX.lt; have y3 := kT.lt;go_simp; (try with_reducible rfl)
  (try simp only [cq])
  refine tkY 4 (some 13) ?_ ?_ ?_
  rotate_left
  · intro w hS0; (try dsimp only at hS0); obtain ⟨kL, kX, kT, _, _⟩ := hS0; obtain ⟨c0, c1⟩ := kL.c2; obtain ⟨d0, d1⟩ := kX.c2; obtain ⟨g0, g1⟩ := kT.c2; have y1 := kL.lt; have y2 := kX.lt; have y3 := kT.lt;go_simp; (try with_reducible rfl)
  (try simp only [cq])
  refine wpAnyH_ready (rs := [1]) (by kernel_rfl) (by simp) ?_
  refine arc1 (some 10) fun K hK => ?_
  go_simp
  (refine (litres_any _ _ _).mono ?_; rintro e w' ⟨rfl, hb⟩)
  refine hK.out _ _ ?_ (fun hH => ?_)
  · (first | exact hH | exact ⟨hH.1.call hb, hH.2.1.call hb, hH.2.2.1.call hb, hH.2.2.2.1.call hb, bwS hH.2.2.2.2 (Nat.le_refl _) hb⟩)
  clear hK K
  (try simp only [cq])
  refine wpAnyH_ready (rs := [3]) (by kernel_rfl) (by simp) ?_
  refine arc1 (some 12) fun K hK => ?_
  go_simp
  (refine (span_any _ _ _ _ _).mono ?_; rintro e w' ⟨rfl, hb⟩)
  refine hK.out _ _ ?_ (fun hH => ?_)
  · (first | exact hH | exact ⟨hH.1.call hb, hH.2.1.call hb, hH.2.2.1.call hb, hH.2.2.2.1.call hb, bwS hH.2.2.2.2 (Nat.le_refl _) hb⟩)
  clear hK K
  (try simp only [cq])
  refine wpAnyH_ready (rs := [5]) (by kernel_rfl) (by simp) ?_
  refine arc1 (some 14) fun K hK => ?_
  go_simp
  (refine (tenths_any _ _ _).mono ?_; rintro e w' ⟨rfl, hb⟩)
  refine hK.out _ _ ?_ (fun hH => ?_)
  · (first | exact hH | exact ⟨hH.1.call hb, hH.2.1.call hb, hH.2.2.1.call hb, hH.2.2.2.1.call hb, bwS hH.2.2.2.2 (Nat.le_refl _) hb⟩)
  clear hK K
  (try simp only [cq])
  refine wpAnyH_ready (rs := [6]) (by kernel_rfl) (by simp) ?_
  refine arc1 (some 15) fun K hK => ?_
  go_simp
  refine hK.out _ _ ?_ (fun hH => ?_)
  · exact ⟨hH.1.alloc _, hH.2.1.alloc _, hH.2.2.1.alloc _, hH.2.2.2.1.alloc _, bwA hH.2.2.2.2 (Nat.le_refl _) _⟩
  clear hK K
  (try simp only [cq])
  refine wpAnyH_ready (rs := [7]) (by kernel_rfl) (by simp) ?_
  refine arc1 (some 16) fun K hK => ?_
  go_simp
  (refine (first_std _ _ l0 l1 b0 b1 t0 t1 _ (by first | (simp; done) | (go_simp; done) | (go_keep; done)) (by first | (simp; done) | (go_simp; done) | (go_keep; done)) (by first | (simp; done) | (go_simp; done) | (go_keep; done))).mono ?_; rintro e w' ⟨rfl, rfl⟩)
  refine hK.out _ _ ?_ (fun hH => ?_)
  · (first | exact hH | exact ⟨hH.1.call hb, hH.2.1.call hb, hH.2.2.1.call hb, hH.2.2.2.1.call hb, bwS hH.2.2.2.2 (Nat.le_refl _) hb⟩)
  clear hK K
  (try simp only [cq])
  refine tkY 8 (some 8) ?_ ?_ ?_
  rotate_left
  · intro w _; go_simp; (try with_reducible rfl)
  (try simp only [cq])
  refine wpAnyH_done (by kernel_rfl) ?_ _
  (try dsimp only [Act.put])
  (try simp only [cq])
  clear jL jX jT jR jB
  obtain ⟨jL, jX, jT, jR, jB⟩ := hH
  obtain ⟨U0, hU0⟩ : ∃ V, Blk.wld jL = V := ⟨_, rfl⟩
  simp only [Blk.wld] at hU0
  rw [hU0] at jL jX jT jR jB ⊢
  clear hU0
  by_cases hz : eStd l0 l1 b0 b1 t0 t1 = 0
  · obtain ⟨⟨q1, q2, q3⟩, ⟨q4, q5, q6⟩, q7, q8, q9⟩ := eStd_zero hz
    have HR := Lib.hid (And.intro (show stdA l0 l1 b0 b1 t0 t1 = stLo l0 b0 b1 t0 t1 from if_pos hz) (show stdB l0 l1 b0 b1 t0 t1 = stHi l1 b0 b1 t0 t1 from if_pos hz))
    have K0 := Lib.hid (fun (W : World) => std_ok l0 l1 b0 b1 t0 t1 q1 q2 q3 q4 q5 q6 q7 q8 q9 W)
    have HZ := Lib.hid hz
    rw [hz]
    clear q1 q2 q3 q4 q5 q6 q7 q8 q9 hz
    generalize stLo l0 b0 b1 t0 t1 = sA at K0 HR
    generalize stHi l1 b0 b1 t0 t1 = sB at K0 HR
    obtain ⟨c0, c1⟩ := jL.c2
    obtain ⟨d0, d1⟩ := jX.c2
    obtain ⟨g0, g1⟩ := jT.c2
    go_wp2_with fail
    refine (K0.out _).mono ?_
    rintro e w' ⟨rfl, hb⟩
    obtain ⟨x0, x1, jR⟩ := jR
    replace jR := jR.call hb
    replace jB := bwS jB (Nat.le_refl _) hb
    clear hb K0 jL jX jT c0 c1 d0 d1 g0 g1
    obtain ⟨r0, r1⟩ := jR.c2
    have f0 := jR.free 0
    have f1 := jR.free 1
    have zR := jR.lt
    have KR := Lib.hid ((jR.set 0 (.int .i64 sA)).set 1 (.int .i64 sB))
    have KB := Lib.hid (below_set2 (c := w.heap.size + 1 + 1 + 1) (j := 0) (k := 1) jB (by omega) (.int .i64 sA) (.int .i64 sB))
    clear jR jB
    go_wp2_with fail
    obtain ⟨z0, z1⟩ := KR.out.c2
    exact bodyPost_ret (v := .tuple #[.agg #[.int .i64 sA, .int .i64 sB], .int .i64 0]) (by simp [results, Try.results22, go_sem, z0, z1]) rfl ⟨by rw [HR.out.1, HR.out.2, HZ.out], KB.out⟩
  · have HR := Lib.hid (And.intro (show stdA l0 l1 b0 b1 t0 t1 = 0 from if_neg hz) (show stdB l0 l1 b0 b1 t0 t1 = 0 from if_neg hz))
    have hz2 : (eStd l0 l1 b0 b1 t0 t1 != 0) = true := by simpa using hz
    have HZ := Lib.hid hz
    clear hz
    obtain ⟨E, hE⟩ : ∃ z, eStd l0 l1 b0 b1 t0 t1 = z := ⟨_, rfl⟩
    rw [hE] at hz2 ⊢
    have HE := Lib.hid hE
    clear hE
    obtain ⟨x0, x1, jR⟩ := jR
    obtain ⟨r0, r1⟩ := jR.c2
    have f0 := jR.free 0
    have f1 := jR.free 1
    have zR := jR.lt
    have KR := Lib.hid ((jR.set 0 (.int .i64 0)).set 1 (.int .i64 0))
    have KB := Lib.hid (below_set2 (c := w.heap.size + 1 + 1 + 1) (j := 0) (k := 1) jB (by omega) (.int .i64 0) (.int .i64 0))
    clear jL jX jT jR jB
    go_wp2_with fail
    obtain ⟨z0, z1⟩ := KR.out.c2
    exact bodyPost_ret (v := .tuple #[.agg #[.int .i64 0, .int .i64 0], .int .i64 E]) (by simp [results, Try.results22, go_sem, z0, z1]) rfl ⟨by rw [HR.out.1, HR.out.2, HE.out], KB.out⟩

theorem up_eq {n d : Int} (hn : 0 ≤ n) (hd : 0 < d) : upQ n d = if n % d = 0 then n / d else n / d + 1 := by
  have h1 := Int.mul_ediv_add_emod n d
  have h2 := Int.emod_nonneg n (show d ≠ 0 by omega)
  have h3 := Int.emod_lt_of_pos n hd
  generalize n / d = q at *
  generalize n % d = r at *
  unfold upQ
  by_cases h : r = 0
  · rw [if_pos h]
    exact ((Int.ediv_emod_unique hd (r := d - 1)).2 ⟨by omega, by omega, by omega⟩).1
  · rw [if_neg h]
    exact ((Int.ediv_emod_unique hd (r := r - 1)).2 ⟨by rw [Int.mul_add]; omega, by omega, by omega⟩).1
set_option maxHeartbeats 1000000 in
theorem rdown_any (n d : Int) (hn : 0 ≤ n) (hn2 : n ≤ 4000000000000000000) (hd : 1 ≤ d) (w : World) :
    Calls Try.prog 75 #[.int .i64 n, .int .i64 d] w fun e w' => e = .returned (.int .i64 (n / d)) ∧ w = w' := by
  have h1 : (d == 0) = false := by simp; omega
  have h1' : ¬ d = 0 := by omega
  have e1 : n.tdiv d = n / d := Int.tdiv_eq_ediv_of_nonneg hn
  have e2 : n.tmod d = n % d := Int.tmod_eq_emod_of_nonneg hn
  have b1 : 0 ≤ n / d := Int.ediv_nonneg hn (by omega)
  have b2 : n / d ≤ n := Int.ediv_le_self d hn
  have b3 := Int.emod_nonneg n (show d ≠ 0 by omega)
  have b5 : ¬ n % d < 0 := by omega
  have w1 : IntKind.i64.wrap (n / d) = n / d := IntWalk.i64_in _ (by omega)
  clear b1 b2 b3
  go_enter Try.func75, Try.ntmps75
  go_wp2
  go_ret
  exact ⟨rfl, rfl⟩
set_option maxHeartbeats 1000000 in
theorem rdown_neg (n d : Int) (hn : 0 ≤ n) (hn2 : n ≤ 4000000000000000000) (hd : 1 ≤ d) (hd2 : d ≤ 1000000000) (w : World) :
    Calls Try.prog 75 #[.int .i64 (-n), .int .i64 d] w fun e w' => e = .returned (.int .i64 (-(upQ n d))) ∧ w = w' := by
  have h1 : (d == 0) = false := by simp; omega
  have h1' : ¬ d = 0 := by omega
  have e1 : (-n).tdiv d = -(n / d) := by rw [Int.neg_tdiv, Int.tdiv_eq_ediv_of_nonneg hn]
  have e2 : (-n).tmod d = -(n % d) := by rw [Int.neg_tmod, Int.tmod_eq_emod_of_nonneg hn]
  have b1 : 0 ≤ n / d := Int.ediv_nonneg hn (by omega)
  have b2 : n / d ≤ n := Int.ediv_le_self d hn
  have b3 := Int.emod_nonneg n (show d ≠ 0 by omega)
  have b4 := Int.emod_lt_of_pos n (show 0 < d by omega)
  have w1 : IntKind.i64.wrap (-(n / d)) = -(n / d) := IntWalk.i64_in _ (by omega)
  have w3 : IntKind.i64.wrap (-(n % d)) = -(n % d) := IntWalk.i64_in _ (by omega)
  have w2 : IntKind.i64.wrap (-(n / d) - 1) = -(n / d) - 1 := IntWalk.i64_in _ (by omega)
  by_cases h : n % d = 0
  · have hu := Lib.hid (show upQ n d = n / d by rw [up_eq hn (by omega), if_pos h])
    rw [h] at e2
    have e3 : (-(0 : Int)) = 0 := by decide
    rw [e3] at e2
    have b5 : ¬ (0 : Int) < 0 := by omega
    clear b1 b2 b3 b4 w3 e3 h
    go_enter Try.func75, Try.ntmps75
    go_wp2
    go_ret
    exact ⟨by rw [hu.out]; rfl, rfl⟩
  · have hu := Lib.hid (show upQ n d = n / d + 1 by rw [up_eq hn (by omega), if_neg h])
    have b5 : -(n % d) < 0 := by omega
    clear b1 b2 b3 b4 h
    go_enter Try.func75, Try.ntmps75
    go_wp2
    go_ret
    exact ⟨by rw [hu.out, show -(n / d + 1) = -(n / d) - 1 by omega]; rfl, rfl⟩
set_option maxHeartbeats 1000000 in
theorem rup_any (n d : Int) (hn : 0 ≤ n) (hn2 : n ≤ 4000000000000000000) (hd : 1 ≤ d) (hd2 : d ≤ 1000000000) (w : World) :
    Calls Try.prog 76 #[.int .i64 n, .int .i64 d] w fun e w' => e = .returned (.int .i64 (upQ n d)) ∧ w = w' := by
  have b3 : 0 ≤ upQ n d := Int.ediv_nonneg (by omega) (by omega)
  have b4 : upQ n d ≤ n + d - 1 := Int.ediv_le_self d (by omega)
  have w1 : IntKind.i64.wrap (-n) = -n := IntWalk.i64_in _ (by omega)
  have w2 : IntKind.i64.wrap (upQ n d) = upQ n d := IntWalk.i64_in _ (by omega)
  clear b3 b4
  go_enter Try.func76, Try.ntmps76
  go_wp2_with fail
  refine (rdown_neg n d hn hn2 hd hd2 _).mono ?_
  rintro e w' ⟨rfl, rfl⟩
  go_wp2
  go_ret
  exact ⟨rfl, rfl⟩
end Go.Proofs.Ytegdflikeoiaaaa

namespace Go.Proofs.Ytegdflikeoiaaaa
open Go.RowKit

theorem eStd_r1 {l0 l1 b0 b1 t0 t1 : Int} (h : ¬ eS l0 l1 0 1000000000 = 0) : stdA l0 l1 b0 b1 t0 t1 = 0 ∧ stdB l0 l1 b0 b1 t0 t1 = 0 ∧ eStd l0 l1 b0 b1 t0 t1 = eS l0 l1 0 1000000000 := by
  have e : eStd l0 l1 b0 b1 t0 t1 = eS l0 l1 0 1000000000 := if_neg h
  have h' : ¬ eStd l0 l1 b0 b1 t0 t1 = 0 := by rw [e]; exact h
  exact ⟨if_neg h', if_neg h', e⟩
theorem eStd_r2 {l0 l1 b0 b1 t0 t1 : Int} (h0 : eS l0 l1 0 1000000000 = 0) (h : ¬ eS b0 b1 0 200 = 0) : stdA l0 l1 b0 b1 t0 t1 = 0 ∧ stdB l0 l1 b0 b1 t0 t1 = 0 ∧ eStd l0 l1 b0 b1 t0 t1 = eS b0 b1 0 200 := by
  have e : eStd l0 l1 b0 b1 t0 t1 = eS b0 b1 0 200 := (if_pos h0).trans (if_neg h)
  have h' : ¬ eStd l0 l1 b0 b1 t0 t1 = 0 := by rw [e]; exact h
  exact ⟨if_neg h', if_neg h', e⟩
theorem eStd_r3 {l0 l1 b0 b1 t0 t1 : Int} (h0 : eS l0 l1 0 1000000000 = 0) (h1 : eS b0 b1 0 200 = 0) : eStd l0 l1 b0 b1 t0 t1 = eS t0 t1 (-1000) 1000 := (if_pos h0).trans (if_pos h1)
theorem eStd_r4 {l0 l1 b0 b1 t0 t1 : Int} (h0 : eS l0 l1 0 1000000000 = 0) (h1 : eS b0 b1 0 200 = 0) (h : ¬ eS t0 t1 (-1000) 1000 = 0) : stdA l0 l1 b0 b1 t0 t1 = 0 ∧ stdB l0 l1 b0 b1 t0 t1 = 0 ∧ eStd l0 l1 b0 b1 t0 t1 = eS t0 t1 (-1000) 1000 := by
  have e : eStd l0 l1 b0 b1 t0 t1 = eS t0 t1 (-1000) 1000 := eStd_r3 h0 h1
  have h' : ¬ eStd l0 l1 b0 b1 t0 t1 = 0 := by rw [e]; exact h
  exact ⟨if_neg h', if_neg h', e⟩
def mnZ (z : Nat → Int) : Nat → Int
  | 0 => z 0
  | j + 1 => min (mnZ z j) (z (j + 1))
def mxZ (z : Nat → Int) : Nat → Int
  | 0 => z 0
  | j + 1 => max (mxZ z j) (z (j + 1))
theorem at4 {w : World} {b : Nat} {x0 x1 x2 x3 : Int} {t : TypeId} (h : Blk w b #[.int .i64 x0, .int .i64 x1, .int .i64 x2, .int .i64 x3] t) : ∀ j, j < 4 → w.cell? ⟨b, j, none⟩ = some (.int .i64 ([x0, x1, x2, x3].getD j 0)) := by
  intro j hj
  match j, hj with
  | 0, _ => exact h.cell 0 rfl
  | 1, _ => exact h.cell 1 rfl
  | 2, _ => exact h.cell 2 rfl
  | 3, _ => exact h.cell 3 rfl
  | k + 4, hk => exact absurd hk (by omega)
set_option maxRecDepth 100000 in
set_option maxHeartbeats 4000000 in
theorem rstd_any (l0 l1 b0 b1 t0 t1 : Int) (w : World) :
    Calls Try.prog 23 #[.agg #[.int .i64 l0, .int .i64 l1], .agg #[.int .i64 b0, .int .i64 b1], .agg #[.int .i64 t0, .int .i64 t1]] w fun e w' => e = .returned (.tuple #[.agg #[.int .i64 (stdA l0 l1 b0 b1 t0 t1), .int .i64 (stdB l0 l1 b0 b1 t0 t1)], .int .i64 (eStd l0 l1 b0 b1 t0 t1)]) ∧ Below w.heap.size w w' := by
  have jL := ((((Blk.new w #[.int .i64 l0, .int .i64 l1] 26).alloc (.cells #[.int .i64 b0, .int .i64 b1] 26)).alloc (.cells #[.int .i64 t0, .int .i64 t1] 26))).alloc (.cells #[.int .i64 0, .int .i64 0] 26)
  have jX := (((Blk.new1 w (.cells #[.int .i64 l0, .int .i64 l1] 26) #[.int .i64 b0, .int .i64 b1] 26).alloc (.cells #[.int .i64 t0, .int .i64 t1] 26))).alloc (.cells #[.int .i64 0, .int .i64 0] 26)
  have jT := (Blk.new2 w (.cells #[.int .i64 l0, .int .i64 l1] 26) (.cells #[.int .i64 b0, .int .i64 b1] 26) #[.int .i64 t0, .int .i64 t1] 26).alloc (.cells #[.int .i64 0, .int .i64 0] 26)
  have jR := Blk.new2 (w.alloc (.cells #[.int .i64 l0, .int .i64 l1] 26)) (.cells #[.int .i64 b0, .int .i64 b1] 26) (.cells #[.int .i64 t0, .int .i64 t1] 26) #[.int .i64 0, .int .i64 0] 26
  simp only [World.size_alloc] at jR
  have jB : Below w.heap.size w ((((w.alloc (.cells #[.int .i64 l0, .int .i64 l1] 26)).alloc (.cells #[.int .i64 b0, .int .i64 b1] 26)).alloc (.cells #[.int .i64 t0, .int .i64 t1] 26)).alloc (.cells #[.int .i64 0, .int .i64 0] 26)) := by (repeat (first | exact Below.refl _ _ | assumption | refine Below.drew ?_ | refine Below.drewN ?_ _ | refine blT ?_ | refine blU ?_))
  go_enter Try.func23, Try.ntmps23
  go_wp2_with fail
  refine (rsp_any _ _ _ _ _).mono ?_
  rintro e w' ⟨rfl, hb⟩
  replace jL := jL.call hb
  replace jX := jX.call hb
  replace jT := jT.call hb
  replace jR := jR.call hb
  replace jB := bwS jB (Nat.le_refl _) hb
  clear hb

  by_cases h0 : eS l0 l1 0 1000000000 = 0
  rotate_left
  · replace jR : Two _ (w.heap.size + 1 + 1 + 1) 26 := ⟨_, _, jR⟩
    have HR := Lib.hid (eStd_r1 (b0 := b0) (b1 := b1) (t0 := t0) (t1 := t1) h0)
    have hz2 : (eS l0 l1 0 1000000000 != 0) = true := by simpa using h0
    have HZ := Lib.hid h0
    clear h0
    obtain ⟨E, hE⟩ : ∃ z, eS l0 l1 0 1000000000 = z := ⟨_, rfl⟩
    rw [hE] at hz2 ⊢
    have HE := Lib.hid hE
    clear hE
    obtain ⟨x0, x1, jR⟩ := jR
    obtain ⟨r0, r1⟩ := jR.c2
    have f0 := jR.free 0
    have f1 := jR.free 1
    have zR := jR.lt
    have KR := Lib.hid ((jR.set 0 (.int .i64 0)).set 1 (.int .i64 0))
    have KB := Lib.hid (below_set2 (c := w.heap.size + 1 + 1 + 1) (j := 0) (k := 1) jB (by omega) (.int .i64 0) (.int .i64 0))
    clear jL jX jT jR jB
    go_wp2_with fail
    obtain ⟨z0, z1⟩ := KR.out.c2
    exact bodyPost_ret (v := .tuple #[.agg #[.int .i64 0, .int .i64 0], .int .i64 E]) (by simp [results, Try.results23, go_sem, z0, z1]) rfl ⟨by rw [HR.out.1, HR.out.2.1, HR.out.2.2, HE.out], KB.out⟩
  obtain ⟨c0, c1⟩ := jX.c2
  have z0 : ((0 : Int) != 0) = false := by decide
  have HZ0 := Lib.hid h0
  rw [h0]
  clear h0
  go_wp2_with fail
  clear c0 c1
  refine (rsp_any _ _ _ _ _).mono ?_
  rintro e w' ⟨rfl, hb⟩
  replace jL := jL.call hb
  replace jX := jX.call hb
  replace jT := jT.call hb
  replace jR := jR.call hb
  replace jB := bwS jB (Nat.le_refl _) hb
  clear hb

  by_cases h1 : eS b0 b1 0 200 = 0
  rotate_left
  · replace jR : Two _ (w.heap.size + 1 + 1 + 1) 26 := ⟨_, _, jR⟩
    have HR := Lib.hid (eStd_r2 (b0 := b0) (b1 := b1) (t0 := t0) (t1 := t1) HZ0.out h1)
    have hz2 : (eS b0 b1 0 200 != 0) = true := by simpa using h1
    have HZ := Lib.hid h1
    clear h1
    obtain ⟨E, hE⟩ : ∃ z, eS b0 b1 0 200 = z := ⟨_, rfl⟩
    rw [hE] at hz2 ⊢
    have HE := Lib.hid hE
    clear hE
    obtain ⟨x0, x1, jR⟩ := jR
    obtain ⟨r0, r1⟩ := jR.c2
    have f0 := jR.free 0
    have f1 := jR.free 1
    have zR := jR.lt
    have KR := Lib.hid ((jR.set 0 (.int .i64 0)).set 1 (.int .i64 0))
    have KB := Lib.hid (below_set2 (c := w.heap.size + 1 + 1 + 1) (j := 0) (k := 1) jB (by omega) (.int .i64 0) (.int .i64 0))
    clear jL jX jT jR jB
    go_wp2_with fail
    obtain ⟨z0, z1⟩ := KR.out.c2
    exact bodyPost_ret (v := .tuple #[.agg #[.int .i64 0, .int .i64 0], .int .i64 E]) (by simp [results, Try.results23, go_sem, z0, z1]) rfl ⟨by rw [HR.out.1, HR.out.2.1, HR.out.2.2, HE.out], KB.out⟩
  obtain ⟨c0, c1⟩ := jT.c2
  have HZ1 := Lib.hid h1
  rw [h1]
  clear h1
  go_wp2_with fail
  clear c0 c1
  refine (rsp_any _ _ _ _ _).mono ?_
  rintro e w' ⟨rfl, hb⟩
  replace jL := jL.call hb
  replace jX := jX.call hb
  replace jT := jT.call hb
  replace jR := jR.call hb
  replace jB := bwS jB (Nat.le_refl _) hb
  clear hb

  by_cases h2 : eS t0 t1 (-1000) 1000 = 0
  rotate_left
  · replace jR : Two _ (w.heap.size + 1 + 1 + 1) 26 := ⟨_, _, jR⟩
    have HR := Lib.hid (eStd_r4 (b0 := b0) (b1 := b1) (t0 := t0) (t1 := t1) HZ0.out HZ1.out h2)
    have hz2 : (eS t0 t1 (-1000) 1000 != 0) = true := by simpa using h2
    have HZ := Lib.hid h2
    clear h2
    obtain ⟨E, hE⟩ : ∃ z, eS t0 t1 (-1000) 1000 = z := ⟨_, rfl⟩
    rw [hE] at hz2 ⊢
    have HE := Lib.hid hE
    clear hE
    obtain ⟨x0, x1, jR⟩ := jR
    obtain ⟨r0, r1⟩ := jR.c2
    have f0 := jR.free 0
    have f1 := jR.free 1
    have zR := jR.lt
    have KR := Lib.hid ((jR.set 0 (.int .i64 0)).set 1 (.int .i64 0))
    have KB := Lib.hid (below_set2 (c := w.heap.size + 1 + 1 + 1) (j := 0) (k := 1) jB (by omega) (.int .i64 0) (.int .i64 0))
    clear jL jX jT jR jB
    go_wp2_with fail
    obtain ⟨z0, z1⟩ := KR.out.c2
    exact bodyPost_ret (v := .tuple #[.agg #[.int .i64 0, .int .i64 0], .int .i64 E]) (by simp [results, Try.results23, go_sem, z0, z1]) rfl ⟨by rw [HR.out.1, HR.out.2.1, HR.out.2.2, HE.out], KB.out⟩
  have hE : eStd l0 l1 b0 b1 t0 t1 = 0 := (eStd_r3 HZ0.out HZ1.out).trans h2
  have HE := Lib.hid (And.intro (show stdA l0 l1 b0 b1 t0 t1 = stLo l0 b0 b1 t0 t1 from if_pos hE) (And.intro (show stdB l0 l1 b0 b1 t0 t1 = stHi l1 b0 b1 t0 t1 from if_pos hE) hE))
  rw [h2]
  clear h2 HZ0 HZ1
  obtain ⟨⟨hl0, hl1, hl2⟩, ⟨hb0, hb1, hb2⟩, ht0, ht1, ht2⟩ := eStd_zero hE
  clear hE
  have q0 := shk_bd hb0 (show b0 ≤ 200 by omega) ht0 (show t0 ≤ 1000 by omega)
  have q1 := shk_bd hb0 (show b0 ≤ 200 by omega) (show -1000 ≤ t1 by omega) ht2
  have q2 := shk_bd (show 0 ≤ b1 by omega) hb2 ht0 (show t0 ≤ 1000 by omega)
  have q3 := shk_bd (show 0 ≤ b1 by omega) hb2 (show -1000 ≤ t1 by omega) ht2
  have hR1 : stLo l0 b0 b1 t0 t1 = l0 * (1000000 - max4 (shk b0 t0) (shk b0 t1) (shk b1 t0) (shk b1 t1)) / 1000000 := rfl
  have hR2 : stHi l1 b0 b1 t0 t1 = upQ (l1 * (1000000 - min4 (shk b0 t0) (shk b0 t1) (shk b1 t0) (shk b1 t1))) 1000000 := rfl
  have w1 : IntKind.i64.wrap (t0 - 150) = t0 - 150 := IntWalk.i64_in _ (by omega)
  have w2 : IntKind.i64.wrap (t1 - 150) = t1 - 150 := IntWalk.i64_in _ (by omega)
  have w3 : IntKind.i64.wrap (b0 * (t0 - 150)) = shk b0 t0 := IntWalk.i64_in _ (show _ ∧ _ from by unfold shk at q0; omega)
  have w4 : IntKind.i64.wrap (b0 * (t1 - 150)) = shk b0 t1 := IntWalk.i64_in _ (show _ ∧ _ from by unfold shk at q1; omega)
  have w5 : IntKind.i64.wrap (b1 * (t0 - 150)) = shk b1 t0 := IntWalk.i64_in _ (show _ ∧ _ from by unfold shk at q2; omega)
  have w6 : IntKind.i64.wrap (b1 * (t1 - 150)) = shk b1 t1 := IntWalk.i64_in _ (show _ ∧ _ from by unfold shk at q3; omega)
  have qM := max4_bd q0 q1 q2 q3
  have qN := min4_bd q0 q1 q2 q3
  generalize shk b0 t0 = z0 at *
  generalize shk b0 t1 = z1 at *
  generalize shk b1 t0 = z2 at *
  generalize shk b1 t1 = z3 at *
  obtain ⟨mx, hmx⟩ : ∃ u, max4 z0 z1 z2 z3 = u := ⟨_, rfl⟩
  obtain ⟨mn, hmn⟩ : ∃ u, min4 z0 z1 z2 z3 = u := ⟨_, rfl⟩
  have HM := Lib.hid (And.intro hmx hmn)
  rw [hmx] at hR1 qM
  rw [hmn] at hR2 qN
  clear hmx hmn
  have p0 := left_bd hl0 (show l0 ≤ 1000000000 by omega) qM
  have p1 := left_bd (show 0 ≤ l1 by omega) hl2 qN
  have e1 : IntKind.i64.wrap (1000000 - mx) = 1000000 - mx := IntWalk.i64_in _ (by omega)
  have e2 : IntKind.i64.wrap (1000000 - mn) = 1000000 - mn := IntWalk.i64_in _ (by omega)
  have e3 : IntKind.i64.wrap (l0 * (1000000 - mx)) = l0 * (1000000 - mx) := IntWalk.i64_in _ (by omega)
  have e4 : IntKind.i64.wrap (l1 * (1000000 - mn)) = l1 * (1000000 - mn) := IntWalk.i64_in _ (by omega)
  obtain ⟨u0, hu0⟩ : ∃ u, l0 * (1000000 - mx) = u := ⟨_, rfl⟩
  obtain ⟨u1, hu1⟩ : ∃ u, l1 * (1000000 - mn) = u := ⟨_, rfl⟩
  rw [hu0] at hR1 p0
  rw [hu1] at hR2 p1
  replace e3 := e3.trans hu0
  replace e4 := e4.trans hu1
  have F0 := Lib.hid (fun (W : World) => rdown_any u0 1000000 p0.1 (by omega) (by omega) W)
  have F1 := Lib.hid (fun (W : World) => rup_any u1 1000000 p1.1 (by omega) (by omega) (by omega) W)
  rw [← hR1] at F0
  rw [← hR2] at F1
  generalize stLo l0 b0 b1 t0 t1 = sA at F0 HE
  generalize stHi l1 b0 b1 t0 t1 = sB at F1 HE
  have HW := Lib.hid (And.intro e1 (And.intro e2 (And.intro e3 e4)))
  clear hR1 hR2 hu0 hu1 p0 p1 q0 q1 q2 q3 qM qN hl0 hl1 hl2 hb0 hb1 hb2 ht0 ht1 ht2 e1 e2 e3 e4
  obtain ⟨c0, c1⟩ := jX.c2
  obtain ⟨d0, d1⟩ := jT.c2
  obtain ⟨Z, hZ⟩ : ∃ V, Blk.wld jL = V := ⟨_, rfl⟩
  simp only [Blk.wld] at hZ
  rw [hZ] at jL jX jT jR jB c0 c1 d0 d1 ⊢
  clear hZ
  have zR := jR.lt
  have jA := Blk.new Z #[.int .i64 z0, .int .i64 z1, .int .i64 z2, .int .i64 z3] 3
  replace jL := jL.alloc (.cells #[.int .i64 z0, .int .i64 z1, .int .i64 z2, .int .i64 z3] 3)
  replace jX := jX.alloc (.cells #[.int .i64 z0, .int .i64 z1, .int .i64 z2, .int .i64 z3] 3)
  replace jT := jT.alloc (.cells #[.int .i64 z0, .int .i64 z1, .int .i64 z2, .int .i64 z3] 3)
  replace jR := jR.alloc (.cells #[.int .i64 z0, .int .i64 z1, .int .i64 z2, .int .i64 z3] 3)
  replace jB := bwA jB (Nat.le_refl _) (.cells #[.int .i64 z0, .int .i64 z1, .int .i64 z2, .int .i64 z3] 3)
  go_upto_region 11 with fail
  clear w1 w2 w3 w4 w5 w6 c0 c1 d0 d1
  generalize Z.alloc (.cells #[.int .i64 z0, .int .i64 z1, .int .i64 z2, .int .i64 z3] 3) = V at jL jX jT jR jB jA ⊢
  obtain ⟨bA, hbA⟩ : ∃ b, Z.heap.size = b := ⟨_, rfl⟩
  rw [hbA] at jA zR ⊢
  clear hbA
  have HA := Lib.hid (fun (W : World) (h : Below V.heap.size V W) (j : Nat) (hj : j < 4) => cell_later h (at4 jA j hj))
  have HJ := Lib.hid (fun (W : World) (h : Below V.heap.size V W) => And.intro (jL.call h) (And.intro (jR.call h) (bwS jB (Nat.le_refl _) h)))
  have zA := jA.lt
  clear jL jX jT jR jB jA
  refine wp_region_held_drew (S := (fun wx => Below V.heap.size V wx)) (by kernel_rfl) ?_ (fun hH => ?_)
  · (try dsimp only); (exact (Below.refl _ _).drew)
  refine tkY 0 (some 58) ?_ ?_ ?_
  rotate_left
  · intro w _; go_simp; (try with_reducible rfl)
  (try simp only [cq])
  refine tkY 1 (some 59) ?_ ?_ ?_
  rotate_left
  · intro w hS0; (try dsimp only at hS0); have r0 := HA.out _ hS0 0 (by omega); have y1 := World.block_lt_of_cell? _ _ r0; replace r0 := r0.trans (show some (Value.int .i64 ([z0, z1, z2, z3].getD 0 0)) = some (.int .i64 z0) from rfl);go_simp; (try with_reducible rfl)
  (try simp only [cq])
  refine tkY 2 (some 60) ?_ ?_ ?_
  rotate_left
  · intro w hS0; (try dsimp only at hS0); have r0 := HA.out _ hS0 0 (by omega); have y1 := World.block_lt_of_cell? _ _ r0; replace r0 := r0.trans (show some (Value.int .i64 ([z0, z1, z2, z3].getD 0 0)) = some (.int .i64 z0) from rfl);go_simp; (try with_reducible rfl)
  (try simp only [cq])
  refine tkY 3 (some 61) ?_ ?_ ?_
  rotate_left
  · intro w _; go_simp; (try with_reducible rfl)
  (try simp only [cq])
  refine tkY 4 (some 62) ?_ ?_ ?_
  rotate_left
  · intro w hS0; (try dsimp only at hS0); have r0 := HA.out _ hS0 0 (by omega); have y1 := World.block_lt_of_cell? _ _ r0; replace r0 := r0.trans (show some (Value.int .i64 ([z0, z1, z2, z3].getD 0 0)) = some (.int .i64 z0) from rfl);go_simp; (try with_reducible rfl)
  (try simp only [cq])
  refine tkY 5 (some 63) ?_ ?_ ?_
  rotate_left
  · intro w hS0; (try dsimp only at hS0); have r0 := HA.out _ hS0 0 (by omega); have y1 := World.block_lt_of_cell? _ _ r0; replace r0 := r0.trans (show some (Value.int .i64 ([z0, z1, z2, z3].getD 0 0)) = some (.int .i64 z0) from rfl);go_simp; (try with_reducible rfl)
  (try simp only [cq])
  refine tkY 6 (some 12) ?_ ?_ ?_
  rotate_left
  · intro w _; go_simp; (try with_reducible rfl)
  (try simp only [cq])
  refine tkY 7 (some 13) ?_ ?_ ?_
  rotate_left
  · intro w _; go_simp; (try with_reducible rfl)
  (try simp only [cq])
  refine wpAnyH_done (by kernel_rfl) ?_ _
  (try dsimp only [Act.put])
  (try simp only [cq])
  go_wp2_with fail
  go_loopw [12, 13, 14] (fun lo hi i wr => ∃ d : Nat, i = .int .i64 ((d + 1 : Nat) : Int) ∧ d ≤ 3 ∧ lo = .int .i64 (mnZ (fun k => [z0, z1, z2, z3].getD k 0) d) ∧ hi = .int .i64 (mxZ (fun k => [z0, z1, z2, z3].getD k 0) d) ∧ Below V.heap.size V wr) (fun _ _ i _ => 4 - (intOf i).toNat)
  case atStart => exact ⟨0, by go_num, by omega, rfl, rfl, hH⟩
  case round =>
    clear hH
    obtain ⟨d, rfl, hd, rfl, rfl, hB⟩ := hrel
    by_cases hlt : d < 3
    · have r0 := HA.out _ (Below.refl _ _) (d + 1) (by omega)
      have HX := Lib.hid (show mnZ (fun k => [z0, z1, z2, z3].getD k 0) (d + 1) = min (mnZ (fun k => [z0, z1, z2, z3].getD k 0) d) ([z0, z1, z2, z3].getD (d + 1) 0) ∧ mxZ (fun k => [z0, z1, z2, z3].getD k 0) (d + 1) = max (mxZ (fun k => [z0, z1, z2, z3].getD k 0) d) ([z0, z1, z2, z3].getD (d + 1) 0) from ⟨rfl, rfl⟩)
      generalize mnZ (fun k => [z0, z1, z2, z3].getD k 0) d = A at HX ⊢
      generalize mxZ (fun k => [z0, z1, z2, z3].getD k 0) d = B at HX ⊢
      generalize [z0, z1, z2, z3].getD (d + 1) 0 = x at HX r0
      have HV := Lib.hid (fun (W : World) (hW : Below V.heap.size V W) => cell_later hW r0)
      clear r0
      obtain ⟨k, hkk⟩ : ∃ k, d + 1 = k := ⟨_, rfl⟩
      rw [hkk] at HV ⊢
      have hkI : (k : Int) < 4 := by omega
      have hkN : k < 4 := by omega
      go_upto_region 15 with fail
      refine wp_region_held_drew (S := (fun wx => Below V.heap.size V wx)) (by kernel_rfl) ?_ (fun hH => ?_)
      · (try dsimp only); (exact hB.drew)
      refine tkY 0 (some 70) ?_ ?_ ?_
      rotate_left
      · intro w _; go_simp; (try with_reducible rfl)
      (try simp only [cq])
      refine tkY 1 (some 71) ?_ ?_ ?_
      rotate_left
      · intro w _; go_simp; (try with_reducible rfl)
      (try simp only [cq])
      refine tkY 2 (some 72) ?_ ?_ ?_
      rotate_left
      · intro w _; go_simp; (try with_reducible rfl)
      (try simp only [cq])
      refine tkY 3 (some 73) ?_ ?_ ?_
      rotate_left
      · intro w hS0; (try dsimp only at hS0); have r0 := HV.out _ hS0; have y2 := World.block_lt_of_cell? _ _ r0;go_simp; (try with_reducible rfl)
      (try simp only [cq])
      refine tkY 4 (some 74) ?_ ?_ ?_
      rotate_left
      · intro w hS0; (try dsimp only at hS0); have r0 := HV.out _ hS0; have y2 := World.block_lt_of_cell? _ _ r0;go_simp; (try with_reducible rfl)
      (try simp only [cq])
      refine tkY 5 (some 75) ?_ ?_ ?_
      rotate_left
      · intro w hS0; (try dsimp only at hS0); have r0 := HV.out _ hS0; have y2 := World.block_lt_of_cell? _ _ r0;go_simp; (try with_reducible rfl)
      (try simp only [cq])
      refine tkY 6 (some 76) ?_ ?_ ?_
      rotate_left
      · intro w _; go_simp; (try with_reducible rfl)
      (try simp only [cq])
      refine tkY 7 (some 77) ?_ ?_ ?_
      rotate_left
      · intro w _; go_simp; (try with_reducible rfl)
      (try simp only [cq])
      refine tkY 8 (some 78) ?_ ?_ ?_
      rotate_left
      · intro w _; go_simp; (try with_reducible rfl)
      (try simp only [cq])
      refine tkY 9 (some 79) ?_ ?_ ?_
      rotate_left
      · intro w hS0; (try dsimp only at hS0); have r0 := HV.out _ hS0; have y2 := World.block_lt_of_cell? _ _ r0;go_simp; (try with_reducible rfl)
      (try simp only [cq])
      refine tkY 10 (some 80) ?_ ?_ ?_
      rotate_left
      · intro w hS0; (try dsimp only at hS0); have r0 := HV.out _ hS0; have y2 := World.block_lt_of_cell? _ _ r0;go_simp; (try with_reducible rfl)
      (try simp only [cq])
      refine tkY 11 (some 81) ?_ ?_ ?_
      rotate_left
      · intro w hS0; (try dsimp only at hS0); have r0 := HV.out _ hS0; have y2 := World.block_lt_of_cell? _ _ r0;go_simp; (try with_reducible rfl)
      (try simp only [cq])
      refine tkY 12 (some 12) ?_ ?_ ?_
      rotate_left
      · intro w _; go_simp; (try with_reducible rfl)
      (try simp only [cq])
      refine tkY 13 (some 13) ?_ ?_ ?_
      rotate_left
      · intro w _; go_simp; (try with_reducible rfl)
      (try simp only [cq])
      refine wpAnyH_done (by kernel_rfl) ?_ _
      (try dsimp only [Act.put])
      (try simp only [cq])
      clear hB
      go_wp2
      go_roundw
      case rel => exact ⟨d + 1, by rw [show d + 1 + 1 = k + 1 by omega]; go_num, by omega, by rw [HX.out.1], by rw [HX.out.2], hH⟩
      case measure => simp [intOf]; omega
    · obtain rfl : d = 3 := by omega
      have hm : mnZ (fun k => [z0, z1, z2, z3].getD k 0) 3 = mn := HM.out.2
      have hm2 : mxZ (fun k => [z0, z1, z2, z3].getD k 0) 3 = mx := HM.out.1
      rw [hm, hm2]
      clear hm hm2
      obtain ⟨e1, e2, e3, e4⟩ := HW.out
      obtain ⟨jL, jR, jB⟩ := HJ.out _ hB
      clear hB HW HA HJ
      go_upto_region 16 with fail
      (
 refine wp_region_held_drew (S := (fun wx => Blk wx w.heap.size #[.int .i64 l0, .int .i64 l1] 26 ∧ Two wx (w.heap.size + 1 + 1 + 1) 26 ∧ Below w.heap.size w wx)) (by kernel_rfl) ?_ (fun hH => ?_)
 · (try dsimp only); (exact ⟨jL.drew, ⟨_, _, jR.drew⟩, jB.drew⟩)
 refine tkY 0 (some 82) ?_ ?_ ?_
 rotate_left
 · intro w hS0; (try dsimp only at hS0); obtain ⟨kL, _, _⟩ := hS0; obtain ⟨c0, c1⟩ := kL.c2; have y1 := kL.lt;go_simp; (try with_reducible rfl)
 (try simp only [cq])
 refine tkY 1 (some 83) ?_ ?_ ?_
 rotate_left
 · intro w hS0; (try dsimp only at hS0); obtain ⟨kL, _, _⟩ := hS0; obtain ⟨c0, c1⟩ := kL.c2; have y1 := kL.lt;go_simp; (try with_reducible rfl)
 (try simp only [cq])
 refine tkY 2 (some 84) ?_ ?_ ?_
 rotate_left
 · intro w _; go_simp; (try with_reducible rfl)
 (try simp only [cq])
 refine tkY 3 (some 85) ?_ ?_ ?_
 rotate_left
 · intro w _; go_simp; (try with_reducible rfl)
 (try simp only [cq])
 refine tkY 4 (some 86) ?_ ?_ ?_
 rotate_left
 · intro w _; go_simp; (try with_reducible rfl)
 (try simp only [cq])
 refine tkY 6 (some 88) ?_ ?_ ?_
 rotate_left
 · intro w hS0; (try dsimp only at hS0); obtain ⟨kL, _, _⟩ := hS0; obtain ⟨c0, c1⟩ := kL.c2; have y1 := kL.lt;go_simp; (try with_reducible rfl)
 (try simp only [cq])
 refine tkY 7 (some 89) ?_ ?_ ?_
 rotate_left
 · intro w hS0; (try dsimp only at hS0); obtain ⟨kL, _, _⟩ := hS0; obtain ⟨c0, c1⟩ := kL.c2; have y1 := kL.lt;go_simp; (try with_reducible rfl)
 (try simp only [cq])
 refine tkY 8 (some 90) ?_ ?_ ?_
 rotate_left
 · intro w _; go_simp; (try with_reducible rfl)
 (try simp only [cq])
 refine tkY 9 (some 91) ?_ ?_ ?_
 rotate_left
 · intro w _; go_simp; (try with_reducible rfl)
 (try simp only [cq])
 refine tkY 10 (some 92) ?_ ?_ ?_
 rotate_left
 · intro w _; go_simp; (try with_reducible rfl)
 (try simp only [cq])
 refine wpAnyH_ready (rs := [5]) (by kernel_rfl) (by simp) ?_
 refine arc1 (some 87) fun K hK => ?_
 go_simp
 (refine (F0.out _).mono ?_; rintro e w' ⟨rfl, rfl⟩)
 refine hK.out _ _ ?_ (fun hH => ?_)
 · (exact hH)
 clear hK K
 (try simp only [cq])
 refine wpAnyH_ready (rs := [11]) (by kernel_rfl) (by simp) ?_
 refine arc1 (some 93) fun K hK => ?_
 go_simp
 (refine (F1.out _).mono ?_; rintro e w' ⟨rfl, rfl⟩)
 refine hK.out _ _ ?_ (fun hH => ?_)
 · (exact hH)
 clear hK K
 (try simp only [cq])
 refine tkY 12 (some 94) ?_ ?_ ?_
 rotate_left
 · intro w _; go_simp; (try with_reducible rfl)
 (try simp only [cq])
 refine wpAnyH_ready (rs := [13]) (by kernel_rfl) (by simp) ?_
 refine arc1 none fun K hK => ?_
 obtain ⟨kL, ⟨y0, y1, kR⟩, kB⟩ := hH
 replace kL := kL.undrew
 replace kR := kR.undrew
 replace kB := below_undrew kB
 obtain ⟨r0, r1⟩ := kR.c2
 have f0 := kR.free 0
 have f1 := kR.free 1
 have zR := kR.lt
 have KL := Lib.hid (((kL.other ⟨w.heap.size + 1 + 1 + 1, 0, none⟩ (.int .i64 sA) (by show _ ≠ w.heap.size + 1 + 1 + 1; omega)).other ⟨w.heap.size + 1 + 1 + 1, 1, none⟩ (.int .i64 sB) (by show _ ≠ w.heap.size + 1 + 1 + 1; omega)).drew)
 have KR := Lib.hid (((kR.set 0 (.int .i64 sA)).set 1 (.int .i64 sB)).drew)
 have KB := Lib.hid ((below_set2 (c := w.heap.size + 1 + 1 + 1) (j := 0) (k := 1) kB (by omega) (.int .i64 sA) (.int .i64 sB)).drew)
 go_simp
 refine hK.out _ _ ?_ (fun hH => ?_)
 · exact ⟨KL.out, ⟨_, _, KR.out⟩, KB.out⟩
 clear hK K
 (try simp only [cq])
 refine tkY 14 (some 7) ?_ ?_ ?_
 rotate_left
 · intro w _; go_simp; (try with_reducible rfl)
 (try simp only [cq])
 refine wpAnyH_done (by kernel_rfl) ?_ _
 (try dsimp only [Act.put])
 (try simp only [cq])
 obtain ⟨x0, x1⟩ := KR.out.c2
 go_wp2
 exact bodyPost_ret (v := .tuple #[.agg #[.int .i64 sA, .int .i64 sB], .int .i64 0]) (by simp [results, Try.results23, go_sem, x0, x1]) rfl ⟨by rw [HE.out.1, HE.out.2.1, HE.out.2.2], KB.out⟩ )
end Go.Proofs.Ytegdflikeoiaaaa

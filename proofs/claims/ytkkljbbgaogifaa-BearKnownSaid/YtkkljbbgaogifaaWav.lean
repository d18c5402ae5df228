/-
  bear.band, critical, calm and Speed, at any shore; Speed whatever comes in.
-/
import Derived.Test.YtkkljbbgaogifaaTail
import Derived.Test.YtkkljbbgaogifaaSpeed
import Derived.Test.YtkkljbbgaogifaaInv
import Derived.Test.YtkkljbbgaogifaaNumV
set_option linter.unusedVariables false
set_option linter.unusedSimpArgs false
namespace Go.Proofs.Ytkkljbbgaogifaa
open Go.RowKit

theorem crit1b (p : Pl) (hp : p.Ok) (vS vC : Value) (sq lo hi : Int) (hl : 0 ≤ lo ∧ lo ≤ 9000000) (hh : 0 ≤ hi ∧ hi ≤ 9000000) (d : Nat) (hd : d ≤ 10001) (bq bs bp : Nat) (w : World) (kq : Blk w bq #[.int .i64 sq] 3) (ks : Blk w bs #[.int .i64 lo, .int .i64 hi] 23) (kp : Blk w bp #[.int .i64 p.s0, .int .i64 p.s1, vS, vC, .int .i64 p.ne, .int .i64 p.ed, .int .i64 p.gr, .int .i64 p.lo, .int .i64 p.hi, .int .i64 p.sh, .int .i64 p.wi] 26) :
    Calls Try.prog 146 #[.int .i64 d, .pointer (some ⟨bq, 0, none⟩), .pointer (some ⟨bs, 0, none⟩), .pointer (some ⟨bp, 0, none⟩)] w fun e w' => e = .returned (.bool (decide (sq ≤ hi * p.gr * (d : Int)))) ∧ Below w.heap.size w w' := by
  have hg0 := hp.gr0
  have hg1 := hp.gr1
  have m0 := Int.mul_nonneg hh.1 (show 0 ≤ p.gr by omega)
  have m1 := Int.mul_le_mul hh.2 hg1 (by omega) (by omega : (0:Int) ≤ 9000000)
  have d0 : (0 : Int) ≤ d := by omega
  have m2 := Int.mul_nonneg m0 d0
  have m3 := Int.mul_le_mul m1 (show (d : Int) ≤ 10001 by omega) d0 (by omega : (0:Int) ≤ 9000000 * 1000)
  have e1 : IntKind.i64.wrap (hi * p.gr) = hi * p.gr := IntWalk.i64_in _ (by omega)
  have e2 : IntKind.i64.wrap (hi * p.gr * (d : Int)) = hi * p.gr * (d : Int) := IntWalk.i64_in _ (by omega)
  clear hp hg0 hg1 m0 m1 m2 m3 d0 hl hh hd
  have q0 := kq.cell1
  obtain ⟨s0, s1⟩ := ks.c2
  obtain ⟨c0, c1, c2, c3, c4, c5, c6, c7, c8, c9, c10⟩ := kp.c11
  go_enter Try.func146, Try.ntmps146
  go_wp2
  go_ret
  exact ⟨rfl, Below.refl _ _⟩

theorem crit2b (p : Pl) (hp : p.Ok) (vS vC : Value) (sq lo hi : Int) (hl : 0 ≤ lo ∧ lo ≤ 9000000) (hh : 0 ≤ hi ∧ hi ≤ 9000000) (d : Nat) (hd : d ≤ 10001) (bq bs bp : Nat) (w : World) (kq : Blk w bq #[.int .i64 sq] 3) (ks : Blk w bs #[.int .i64 lo, .int .i64 hi] 23) (kp : Blk w bp #[.int .i64 p.s0, .int .i64 p.s1, vS, vC, .int .i64 p.ne, .int .i64 p.ed, .int .i64 p.gr, .int .i64 p.lo, .int .i64 p.hi, .int .i64 p.sh, .int .i64 p.wi] 26) :
    Calls Try.prog 147 #[.int .i64 d, .pointer (some ⟨bq, 0, none⟩), .pointer (some ⟨bs, 0, none⟩), .pointer (some ⟨bp, 0, none⟩)] w fun e w' => e = .returned (.bool (decide (sq < lo * p.gr * (d : Int)))) ∧ Below w.heap.size w w' := by
  have hg0 := hp.gr0
  have hg1 := hp.gr1
  have m0 := Int.mul_nonneg hl.1 (show 0 ≤ p.gr by omega)
  have m1 := Int.mul_le_mul hl.2 hg1 (by omega) (by omega : (0:Int) ≤ 9000000)
  have d0 : (0 : Int) ≤ d := by omega
  have m2 := Int.mul_nonneg m0 d0
  have m3 := Int.mul_le_mul m1 (show (d : Int) ≤ 10001 by omega) d0 (by omega : (0:Int) ≤ 9000000 * 1000)
  have e1 : IntKind.i64.wrap (lo * p.gr) = lo * p.gr := IntWalk.i64_in _ (by omega)
  have e2 : IntKind.i64.wrap (lo * p.gr * (d : Int)) = lo * p.gr * (d : Int) := IntWalk.i64_in _ (by omega)
  clear hp hg0 hg1 m0 m1 m2 m3 d0 hl hh hd
  have q0 := kq.cell1
  obtain ⟨s0, s1⟩ := ks.c2
  obtain ⟨c0, c1, c2, c3, c4, c5, c6, c7, c8, c9, c10⟩ := kp.c11
  go_enter Try.func147, Try.ntmps147
  go_wp2
  go_ret
  exact ⟨rfl, Below.refl _ _⟩


set_option maxHeartbeats 2000000 in
theorem band_any (p : Pl) (hp : p.Ok) (aS aC : Option Addr) (nS cS nC cC : Nat) (shore : Int) (w : World) :
    Calls Try.prog 145 #[.agg #[.int .i64 p.s0, .int .i64 p.s1, (.slice aS nS cS), (.slice aC nC cC), .int .i64 p.ne, .int .i64 p.ed, .int .i64 p.gr, .int .i64 p.lo, .int .i64 p.hi, .int .i64 p.sh, .int .i64 p.wi], .int .i64 shore] w fun e w' => e = .returned (.agg #[.int .i64 (loB p shore), .int .i64 (hiB p shore)]) ∧ Below w.heap.size w w' := by
  by_cases hs : p.sh ≤ shore
  · rw [show loB p shore = p.lo from if_pos hs, show hiB p shore = p.hi from if_pos hs]
    exact band_far p aS aC nS cS nC cC shore hs w
  · have lo0 := hp.lo0
    have loh := hp.loh
    have hi1 := hp.hi1
    have wi0 := hp.wi0
    have wi1 := hp.wi1
    have a0 := Int.mul_nonneg (show 0 ≤ p.lo by omega) (show 0 ≤ 1000000 - p.wi by omega)
    have a1 := Int.mul_le_mul_of_nonneg_left (show 1000000 - p.wi ≤ 1000000 by omega) (show 0 ≤ p.lo by omega)
    have b0 := Int.mul_nonneg (show 0 ≤ p.hi by omega) (show 0 ≤ 1000000 + p.wi by omega)
    have b1 := Int.mul_le_mul_of_nonneg_left (show 1000000 + p.wi ≤ 2000000 by omega) (show 0 ≤ p.hi by omega)
    obtain ⟨lo, hlo⟩ : ∃ lo, loB p shore = lo := ⟨_, rfl⟩
    obtain ⟨hi, hhi⟩ : ∃ hi, hiB p shore = hi := ⟨_, rfl⟩
    have hlo2 : p.lo * (1000000 - p.wi) / 1000000 = lo := by rw [← hlo]; exact (if_neg hs).symm
    have hhi2 : (p.hi * (1000000 + p.wi) + 1000000 - 1) / 1000000 = hi := by rw [← hhi]; exact (if_neg hs).symm
    rw [hlo, hhi]
    have e1 : IntKind.i64.wrap (1000000 - p.wi) = 1000000 - p.wi := IntWalk.i64_in _ (by omega)
    have e2 : IntKind.i64.wrap (p.lo * (1000000 - p.wi)) = p.lo * (1000000 - p.wi) := IntWalk.i64_in _ (by omega)
    have e3 : IntKind.i64.wrap ((p.lo * (1000000 - p.wi)).tdiv 1000000) = lo := by rw [Int.tdiv_eq_ediv_of_nonneg a0, hlo2]; exact IntWalk.i64_in _ (by omega)
    have e4 : IntKind.i64.wrap (1000000 + p.wi) = 1000000 + p.wi := IntWalk.i64_in _ (by omega)
    have e5 : IntKind.i64.wrap (p.hi * (1000000 + p.wi)) = p.hi * (1000000 + p.wi) := IntWalk.i64_in _ (by omega)
    have e6 : IntKind.i64.wrap (p.hi * (1000000 + p.wi) + 1000000) = p.hi * (1000000 + p.wi) + 1000000 := IntWalk.i64_in _ (by omega)
    have e7 : IntKind.i64.wrap (p.hi * (1000000 + p.wi) + 1000000 - 1) = p.hi * (1000000 + p.wi) + 1000000 - 1 := IntWalk.i64_in _ (by omega)
    have e8 : IntKind.i64.wrap ((p.hi * (1000000 + p.wi) + 1000000 - 1).tdiv 1000000) = hi := by rw [Int.tdiv_eq_ediv_of_nonneg (by omega), hhi2]; exact IntWalk.i64_in _ (by omega)
    have hs2 : shore < p.sh := by omega
    clear a0 a1 b0 b1 lo0 loh hi1 wi0 wi1 hlo hhi hlo2 hhi2 hp
    have jP := (Blk.new w #[.int .i64 p.s0, .int .i64 p.s1, (.slice aS nS cS), (.slice aC nC cC), .int .i64 p.ne, .int .i64 p.ed, .int .i64 p.gr, .int .i64 p.lo, .int .i64 p.hi, .int .i64 p.sh, .int .i64 p.wi] 26).alloc (.cells #[.int .i64 0, .int .i64 0] 23)
    have jO := Blk.new1 w (.cells #[.int .i64 p.s0, .int .i64 p.s1, (.slice aS nS cS), (.slice aC nC cC), .int .i64 p.ne, .int .i64 p.ed, .int .i64 p.gr, .int .i64 p.lo, .int .i64 p.hi, .int .i64 p.sh, .int .i64 p.wi] 26) #[.int .i64 0, .int .i64 0] 23
    have jB : Below w.heap.size w ((w.alloc (.cells #[.int .i64 p.s0, .int .i64 p.s1, (.slice aS nS cS), (.slice aC nC cC), .int .i64 p.ne, .int .i64 p.ed, .int .i64 p.gr, .int .i64 p.lo, .int .i64 p.hi, .int .i64 p.sh, .int .i64 p.wi] 26)).alloc (.cells #[.int .i64 0, .int .i64 0] 23)) := by (repeat (first | exact Below.refl _ _ | assumption | refine Below.drew ?_ | refine Below.drewN ?_ _ | refine blT ?_ | refine blU ?_))
    go_enter Try.func145, Try.ntmps145
    go_upto_region 1 with fail
    obtain ⟨bP, hbP⟩ : ∃ b, w.heap.size = b := ⟨_, rfl⟩
    obtain ⟨bO, hbO⟩ : ∃ b, bP + 1 = b := ⟨_, rfl⟩
    rw [hbP] at jP jO
    (try rw [hbP])
    rw [hbO] at jO
    (try rw [hbO])
    have zwO : w.heap.size ≤ bO := by omega
    clear hbP hbO
    generalize (w.alloc (.cells #[.int .i64 p.s0, .int .i64 p.s1, (.slice aS nS cS), (.slice aC nC cC), .int .i64 p.ne, .int .i64 p.ed, .int .i64 p.gr, .int .i64 p.lo, .int .i64 p.hi, .int .i64 p.sh, .int .i64 p.wi] 26)).alloc (.cells #[.int .i64 0, .int .i64 0] 23) = V at jP jO jB ⊢
    obtain ⟨c0, c1, c2, c3, c4, c5, c6, c7, c8, c9, c10⟩ := jP.c11
    obtain ⟨o0, o1⟩ := jO.c2
    have zP := jP.lt
    have zO := jO.lt
    have f0 := jO.free 0
    have f1 := jO.free 1
    have kO : Blk ((V.setCell ⟨bO, 0, none⟩ (.int .i64 lo)).setCell ⟨bO, 1, none⟩ (.int .i64 hi)) bO #[.int .i64 lo, .int .i64 hi] 23 := ((jO.set 0 (.int .i64 lo)).set 1 (.int .i64 hi)).eq (by simp)
    have kB := (jB.setCell (p := ⟨bO, 0, none⟩) zwO (.int .i64 lo)).setCell (p := ⟨bO, 1, none⟩) zwO (.int .i64 hi)
    have HQ := Lib.hid kO.c2
    clear jP jO jB kO
    go_wp2
    obtain ⟨z0, z1⟩ := HQ.out
    exact bodyPost_ret (v := .agg #[.int .i64 lo, .int .i64 hi]) (by simp [results, Try.results145, go_sem, z0, z1]) rfl ⟨rfl, kB⟩

set_option maxHeartbeats 2000000 in
theorem critical_any (p : Pl) (hp : p.Ok) (aS aC : Option Addr) (nS cS nC cC : Nat) (shore v : Int) (hv : 0 ≤ v ∧ v ≤ 1000) (w : World) :
    Calls Try.prog 136 #[.agg #[.int .i64 p.s0, .int .i64 p.s1, (.slice aS nS cS), (.slice aC nC cC), .int .i64 p.ne, .int .i64 p.ed, .int .i64 p.gr, .int .i64 p.lo, .int .i64 p.hi, .int .i64 p.sh, .int .i64 p.wi], .int .i64 shore, .int .i64 v] w fun e w' => ∃ f b : Nat, e = .returned (.agg #[.int .i64 f, .int .i64 ((b : Int) - 1)]) ∧ f ≤ 10001 ∧ b ≤ 10001 ∧ (f < 10001 → v * v * 1000000 ≤ hiB p shore * p.gr * (f : Int)) ∧ (∀ j, f = j + 1 → ¬ v * v * 1000000 ≤ hiB p shore * p.gr * ((j : Nat) : Int)) ∧ (b < 10001 → v * v * 1000000 < loB p shore * p.gr * (b : Int)) ∧ (∀ j, b = j + 1 → ¬ v * v * 1000000 < loB p shore * p.gr * ((j : Nat) : Int)) ∧ Below w.heap.size w w' := by
  have v0 := Int.mul_nonneg hv.1 hv.1
  have v1 := Int.mul_le_mul hv.2 hv.2 hv.1 (by omega : (0:Int) ≤ 1000)
  have e1 : IntKind.i64.wrap (v * v) = v * v := IntWalk.i64_in _ (by omega)
  have e2 : IntKind.i64.wrap (v * v * 1000000) = v * v * 1000000 := IntWalk.i64_in _ (by omega)
  clear v0 v1
  have hlo : 0 ≤ loB p shore ∧ loB p shore ≤ 9000000 := by have := lo_in hp shore; omega
  have hhi : 0 ≤ hiB p shore ∧ hiB p shore ≤ 9000000 := by have := hi_in hp shore; omega
  have jP := (Blk.new w #[.int .i64 p.s0, .int .i64 p.s1, (.slice aS nS cS), (.slice aC nC cC), .int .i64 p.ne, .int .i64 p.ed, .int .i64 p.gr, .int .i64 p.lo, .int .i64 p.hi, .int .i64 p.sh, .int .i64 p.wi] 26).alloc (.cells #[.int .i64 0, .int .i64 0] 23)
  have jO := Blk.new1 w (.cells #[.int .i64 p.s0, .int .i64 p.s1, (.slice aS nS cS), (.slice aC nC cC), .int .i64 p.ne, .int .i64 p.ed, .int .i64 p.gr, .int .i64 p.lo, .int .i64 p.hi, .int .i64 p.sh, .int .i64 p.wi] 26) #[.int .i64 0, .int .i64 0] 23
  have jB : Below w.heap.size w ((w.alloc (.cells #[.int .i64 p.s0, .int .i64 p.s1, (.slice aS nS cS), (.slice aC nC cC), .int .i64 p.ne, .int .i64 p.ed, .int .i64 p.gr, .int .i64 p.lo, .int .i64 p.hi, .int .i64 p.sh, .int .i64 p.wi] 26)).alloc (.cells #[.int .i64 0, .int .i64 0] 23)) := by (repeat (first | exact Below.refl _ _ | assumption | refine Below.drew ?_ | refine Below.drewN ?_ _ | refine blT ?_ | refine blU ?_))
  have H1 : Hid (∀ (bq bs bp : Nat) (W : World), Blk W bq #[.int .i64 (v * v * 1000000)] 3 → Blk W bs #[.int .i64 (loB p shore), .int .i64 (hiB p shore)] 23 → Blk W bp #[.int .i64 p.s0, .int .i64 p.s1, (.slice aS nS cS), (.slice aC nC cC), .int .i64 p.ne, .int .i64 p.ed, .int .i64 p.gr, .int .i64 p.lo, .int .i64 p.hi, .int .i64 p.sh, .int .i64 p.wi] 26 → Calls Try.prog 79 #[.int .i64 10001, .func (.func 146) #[] #[.pointer (some ⟨bq, 0, none⟩), .pointer (some ⟨bs, 0, none⟩), .pointer (some ⟨bp, 0, none⟩)]] W fun e w' => ∃ k : Nat, e = .returned (.int .i64 k) ∧ k ≤ 10001 ∧ (k < 10001 → decide (v * v * 1000000 ≤ hiB p shore * p.gr * (k : Int)) = true) ∧ (∀ j, k = j + 1 → decide (v * v * 1000000 ≤ hiB p shore * p.gr * ((j : Nat) : Int)) = false) ∧ Below W.heap.size W w') := fun bq bs bp W kq ks kp =>
    search1_in 10001 (by decide) _ _ _ (fun d => decide (v * v * 1000000 ≤ hiB p shore * p.gr * (d : Int))) W (fun i hi U hU => crit1b p hp _ _ _ (loB p shore) (hiB p shore) hlo hhi i (by omega) bq bs bp U (kq.call hU) (ks.call hU) (kp.call hU))
  have H2 : Hid (∀ (bq bs bp : Nat) (W : World), Blk W bq #[.int .i64 (v * v * 1000000)] 3 → Blk W bs #[.int .i64 (loB p shore), .int .i64 (hiB p shore)] 23 → Blk W bp #[.int .i64 p.s0, .int .i64 p.s1, (.slice aS nS cS), (.slice aC nC cC), .int .i64 p.ne, .int .i64 p.ed, .int .i64 p.gr, .int .i64 p.lo, .int .i64 p.hi, .int .i64 p.sh, .int .i64 p.wi] 26 → Calls Try.prog 79 #[.int .i64 10001, .func (.func 147) #[] #[.pointer (some ⟨bq, 0, none⟩), .pointer (some ⟨bs, 0, none⟩), .pointer (some ⟨bp, 0, none⟩)]] W fun e w' => ∃ k : Nat, e = .returned (.int .i64 k) ∧ k ≤ 10001 ∧ (k < 10001 → decide (v * v * 1000000 < loB p shore * p.gr * (k : Int)) = true) ∧ (∀ j, k = j + 1 → decide (v * v * 1000000 < loB p shore * p.gr * ((j : Nat) : Int)) = false) ∧ Below W.heap.size W w') := fun bq bs bp W kq ks kp =>
    search2_in 10001 (by decide) _ _ _ (fun d => decide (v * v * 1000000 < loB p shore * p.gr * (d : Int))) W (fun i hi U hU => crit2b p hp _ _ _ (loB p shore) (hiB p shore) hlo hhi i (by omega) bq bs bp U (kq.call hU) (ks.call hU) (kp.call hU))
  have HB := Lib.hid (band_any p hp aS aC nS cS nC cC shore)
  clear hp hv hlo hhi
  generalize loB p shore = lo at H1 H2 HB ⊢
  generalize hiB p shore = hi at H1 H2 HB ⊢
  go_enter Try.func136, Try.ntmps136
  go_wp2_with fail
  refine (HB.out _).mono ?_
  rintro e w1 ⟨rfl, hb⟩
  replace jP := jP.call hb
  replace jO := jO.call hb
  replace jB := bwS jB (Nat.le_refl _) hb
  clear hb HB
  have zP := jP.lt
  have zO := jO.lt
  go_upto_region 2 with fail
  have jS := (Blk.new w1 #[.int .i64 lo, .int .i64 hi] 23).alloc (.cells #[.int .i64 (v * v * 1000000)] 3)
  have jQ := Blk.new1 w1 (.cells #[.int .i64 lo, .int .i64 hi] 23) #[.int .i64 (v * v * 1000000)] 3
  replace jP := (jP.alloc (.cells #[.int .i64 lo, .int .i64 hi] 23)).alloc (.cells #[.int .i64 (v * v * 1000000)] 3)
  replace jO := (jO.alloc (.cells #[.int .i64 lo, .int .i64 hi] 23)).alloc (.cells #[.int .i64 (v * v * 1000000)] 3)
  have zz := jB.size
  replace jB := bwA (bwA jB (Nat.le_refl _) (.cells #[.int .i64 lo, .int .i64 hi] 23)) (Nat.le_refl _) (.cells #[.int .i64 (v * v * 1000000)] 3)
  generalize (w1.alloc (.cells #[.int .i64 lo, .int .i64 hi] 23)).alloc (.cells #[.int .i64 (v * v * 1000000)] 3) = V at jS jQ jP jO jB ⊢
  go_wp2_with fail
  refine (H1.out _ _ _ _ jQ jS jP).mono ?_
  rintro e w2 ⟨f, rfl, f1, f2, f3, hb⟩
  have G1 := Lib.hid (And.intro f1 (And.intro f2 f3))
  clear f1 f2 f3 H1
  replace jS := jS.call hb
  replace jQ := jQ.call hb
  replace jP := jP.call hb
  replace jO := jO.call hb
  replace jB := bwS jB (Nat.le_refl _) hb
  clear hb
  go_wp2_with fail
  refine (H2.out _ _ _ _ jQ jS jP).mono ?_
  rintro e w3 ⟨b, rfl, f1, f2, f3, hb⟩
  have e3 : IntKind.i64.wrap ((b : Int) - 1) = (b : Int) - 1 := IntWalk.i64_in _ (by omega)
  have G2 := Lib.hid (And.intro f1 (And.intro f2 f3))
  clear f1 f2 f3 H2 jQ jS jP
  replace jO := jO.call hb
  replace jB := bwS jB (Nat.le_refl _) hb
  clear hb
  obtain ⟨o0, o1⟩ := jO.c2
  have zQ := jO.lt
  have g0 := jO.free 0
  have g1 := jO.free 1
  have HQ := Lib.hid ((jO.set 0 (.int .i64 f)).set 1 (.int .i64 ((b : Int) - 1))).c2
  have HW := Lib.hid (show Below w.heap.size w ((w3.setCell ⟨w.heap.size + 1, 0, none⟩ (.int .i64 f)).setCell ⟨w.heap.size + 1, 1, none⟩ (.int .i64 ((b : Int) - 1))) from (jB.setCell (by simp) _).setCell (by simp) _)
  clear jO jB
  go_wp2
  obtain ⟨z0, z1⟩ := HQ.out
  obtain ⟨f1, f2, f3⟩ := G1.out
  obtain ⟨b1, b2, b3⟩ := G2.out
  exact bodyPost_ret (v := .agg #[.int .i64 f, .int .i64 ((b : Int) - 1)]) (by simp [results, Try.results136, go_sem, z0, z1]) rfl ⟨f, b, rfl, f1, b1, fun h => by simpa using f2 h, fun j h => by simpa using f3 j h, fun h => by simpa using b2 h, fun j h => by simpa using b3 j h, HW.out⟩


set_option maxRecDepth 100000 in
set_option maxHeartbeats 4000000 in
theorem calm_any (p : Pl) (hp : p.Ok) (aS aC : Option Addr) (nS cS nC cC : Nat) (d0 d1 shore v : Int) (hv : 0 ≤ v ∧ v ≤ 1000) (hd : 0 ≤ d0 ∧ d0 ≤ d1 ∧ d1 ≤ 10000) (w : World) :
    Calls Try.prog 103 #[.agg #[.int .i64 p.s0, .int .i64 p.s1, (.slice aS nS cS), (.slice aC nC cC), .int .i64 p.ne, .int .i64 p.ed, .int .i64 p.gr, .int .i64 p.lo, .int .i64 p.hi, .int .i64 p.sh, .int .i64 p.wi], .agg #[.int .i64 d0, .int .i64 d1], .int .i64 shore, .int .i64 v] w fun e w' => e = .returned (.int .i64 (calmV p d0 d1 shore v)) ∧ Below w.heap.size w w' := by
  have jP := (Blk.new w #[.int .i64 p.s0, .int .i64 p.s1, (.slice aS nS cS), (.slice aC nC cC), .int .i64 p.ne, .int .i64 p.ed, .int .i64 p.gr, .int .i64 p.lo, .int .i64 p.hi, .int .i64 p.sh, .int .i64 p.wi] 26).alloc (.cells #[.int .i64 d0, .int .i64 d1] 23)
  have jD := Blk.new1 w (.cells #[.int .i64 p.s0, .int .i64 p.s1, (.slice aS nS cS), (.slice aC nC cC), .int .i64 p.ne, .int .i64 p.ed, .int .i64 p.gr, .int .i64 p.lo, .int .i64 p.hi, .int .i64 p.sh, .int .i64 p.wi] 26) #[.int .i64 d0, .int .i64 d1] 23
  have jB : Below w.heap.size w ((w.alloc (.cells #[.int .i64 p.s0, .int .i64 p.s1, (.slice aS nS cS), (.slice aC nC cC), .int .i64 p.ne, .int .i64 p.ed, .int .i64 p.gr, .int .i64 p.lo, .int .i64 p.hi, .int .i64 p.sh, .int .i64 p.wi] 26)).alloc (.cells #[.int .i64 d0, .int .i64 d1] 23)) := by (repeat (first | exact Below.refl _ _ | assumption | refine Below.drew ?_ | refine Below.drewN ?_ _ | refine blT ?_ | refine blU ?_))
  have HC := Lib.hid (critical_any p hp aS aC nS cS nC cC shore v hv)
  have HH : Hid (∀ f b : Nat, f ≤ 10001 → b ≤ 10001 → (f < 10001 → v * v * 1000000 ≤ hiB p shore * p.gr * (f : Int)) → (∀ j, f = j + 1 → ¬ v * v * 1000000 ≤ hiB p shore * p.gr * ((j : Nat) : Int)) → (b < 10001 → v * v * 1000000 < loB p shore * p.gr * (b : Int)) → (∀ j, b = j + 1 → ¬ v * v * 1000000 < loB p shore * p.gr * ((j : Nat) : Int)) → calmV p d0 d1 shore v = if min d1 ((b : Int) - 1) < max d0 (f : Int) then 1 else if max d0 (f : Int) = d0 ∧ min d1 ((b : Int) - 1) = d1 then 2 else 3) := fun f b q1 q2 q3 q4 q5 q6 =>
    calm_ends hd.1 hd.2.1 hd.2.2 (crit_ends hp q1 q2 q3 q4 q5 q6)
  obtain ⟨r, hr⟩ : ∃ r, calmV p d0 d1 shore v = r := ⟨_, rfl⟩
  rw [hr] at HH ⊢
  clear hr hp hv
  go_enter Try.func103, Try.ntmps103
  go_wp2_with fail
  refine (HC.out _).mono ?_
  rintro e w1 ⟨f, b, rfl, q1, q2, q3, q4, q5, q6, hb⟩
  have h1 := HH.out f b q1 q2 q3 q4 q5 q6
  clear q1 q2 q3 q4 q5 q6 HC HH
  replace jD := jD.call hb
  replace jB := bwS jB (Nat.le_refl _) hb
  clear hb jP
  obtain ⟨x, hx⟩ : ∃ x, max d0 (f : Int) = x := ⟨_, rfl⟩
  obtain ⟨y, hy⟩ : ∃ y, min d1 ((b : Int) - 1) = y := ⟨_, rfl⟩
  rw [hx, hy] at h1
  have HR := Lib.hid h1
  clear h1 hd
  have jC := Blk.new w1 #[.int .i64 f, .int .i64 ((b : Int) - 1)] 23
  go_upto_region 2 with fail
  obtain ⟨bD, hbD⟩ : ∃ z, w.heap.size + 1 = z := ⟨_, rfl⟩
  obtain ⟨bC, hbC⟩ : ∃ z, w1.heap.size = z := ⟨_, rfl⟩
  rw [hbD] at jD
  (try rw [hbD])
  rw [hbC] at jC
  (try rw [hbC])
  clear hbD hbC
  replace jD := jD.alloc (.cells #[.int .i64 f, .int .i64 ((b : Int) - 1)] 23)
  replace jB := bwA jB (Nat.le_refl _) (.cells #[.int .i64 f, .int .i64 ((b : Int) - 1)] 23)
  generalize w1.alloc (.cells #[.int .i64 f, .int .i64 ((b : Int) - 1)] 23) = V at jD jC jB ⊢
  obtain ⟨d2, d3⟩ := jD.c2
  obtain ⟨g0, g1⟩ := jC.c2
  have zD := jD.lt
  have zC := jC.lt
  have jX := Blk.new V #[.int .i64 x, .int .i64 y] 23
  go_upto_region 3 with fail
  obtain ⟨bX, hbX⟩ : ∃ z, V.heap.size = z := ⟨_, rfl⟩
  rw [hbX] at jX
  (try rw [hbX])
  clear hbX d2 d3 g0 g1 zD zC
  replace jD := jD.alloc (.cells #[.int .i64 x, .int .i64 y] 23)
  replace jB := bwA jB (Nat.le_refl _) (.cells #[.int .i64 x, .int .i64 y] 23)
  generalize V.alloc (.cells #[.int .i64 x, .int .i64 y] 23) = V2 at jD jX jB ⊢
  clear hx hy jC
  by_cases h : y < x
  · have hr : r = 1 := by rw [HR.out, if_pos h]
    subst hr
    obtain ⟨g0, g1⟩ := jX.c2
    have zX := jX.lt
    go_wp2
    go_ret
    exact ⟨rfl, jB⟩
  · by_cases h2 : x = d0
    · by_cases h3 : y = d1
      · have hr : r = 2 := by rw [HR.out, if_neg h, if_pos ⟨h2, h3⟩]
        subst hr h2 h3
        obtain ⟨g0, g1⟩ := jX.c2
        have zX := jX.lt
        obtain ⟨d2, d3⟩ := jD.c2
        have zD := jD.lt
        go_wp2
        go_ret
        exact ⟨rfl, jB⟩
      · have hr : r = 3 := by rw [HR.out, if_neg h, if_neg (fun q => h3 q.2)]
        subst hr h2
        have e1 : (y == d1) = false := by simpa using h3
        obtain ⟨g0, g1⟩ := jX.c2
        have zX := jX.lt
        obtain ⟨d2, d3⟩ := jD.c2
        have zD := jD.lt
        go_wp2
        go_ret
        exact ⟨rfl, jB⟩
    · have hr : r = 3 := by rw [HR.out, if_neg h, if_neg (fun q => h2 q.1)]
      subst hr
      have e1 : (x == d0) = false := by simpa using h2
      obtain ⟨g0, g1⟩ := jX.c2
      have zX := jX.lt
      obtain ⟨d2, d3⟩ := jD.c2
      have zD := jD.lt
      go_wp2
      go_ret
      exact ⟨rfl, jB⟩

def eWav (p : Pl) (d0 d1 shore : Int) : Int := orE (ePl p) (orE (eS d0 d1 0 10000) (eN shore 0 100000))
def eSpd (p : Pl) (d0 d1 shore v : Int) : Int := orE (eWav p d0 d1 shore) (eN v 0 1000)
set_option maxRecDepth 100000 in
set_option maxHeartbeats 4000000 in
theorem waves_any (p : Pl) (vS vC : Value) (a b shore : Int) (w : World) (hS : TabAt w vS p.S) (hC : TabAt w vC p.C) :
    Calls Try.prog 102 #[.agg #[.int .i64 p.s0, .int .i64 p.s1, vS, vC, .int .i64 p.ne, .int .i64 p.ed, .int .i64 p.gr, .int .i64 p.lo, .int .i64 p.hi, .int .i64 p.sh, .int .i64 p.wi], .agg #[.int .i64 a, .int .i64 b], .int .i64 shore] w fun e w' => e = .returned (.int .i64 (eWav p a b shore)) ∧ Below w.heap.size w w' := by
  obtain ⟨aS, cS, rfl, _, _, _⟩ := id hS
  obtain ⟨aC, cC, rfl, _, _, _⟩ := id hC
  have HC : Hid (∀ W, Below w.heap.size w W → Calls Try.prog 30 #[.agg #[.int .i64 p.s0, .int .i64 p.s1, (.slice aS p.S.n cS), (.slice aC p.C.n cC), .int .i64 p.ne, .int .i64 p.ed, .int .i64 p.gr, .int .i64 p.lo, .int .i64 p.hi, .int .i64 p.sh, .int .i64 p.wi]] W fun e w' => e = .returned (.int .i64 (ePl p)) ∧ Below W.heap.size W w') := fun W hW => check_any p _ _ W (PairsAt.later hS hW) (PairsAt.later hC hW)
  clear hS hC
  have jP := (Blk.new w #[.int .i64 p.s0, .int .i64 p.s1, (.slice aS p.S.n cS), (.slice aC p.C.n cC), .int .i64 p.ne, .int .i64 p.ed, .int .i64 p.gr, .int .i64 p.lo, .int .i64 p.hi, .int .i64 p.sh, .int .i64 p.wi] 26).alloc (.cells #[.int .i64 a, .int .i64 b] 23)
  have jD := Blk.new1 w (.cells #[.int .i64 p.s0, .int .i64 p.s1, (.slice aS p.S.n cS), (.slice aC p.C.n cC), .int .i64 p.ne, .int .i64 p.ed, .int .i64 p.gr, .int .i64 p.lo, .int .i64 p.hi, .int .i64 p.sh, .int .i64 p.wi] 26) #[.int .i64 a, .int .i64 b] 23
  have jB : Below w.heap.size w ((w.alloc (.cells #[.int .i64 p.s0, .int .i64 p.s1, (.slice aS p.S.n cS), (.slice aC p.C.n cC), .int .i64 p.ne, .int .i64 p.ed, .int .i64 p.gr, .int .i64 p.lo, .int .i64 p.hi, .int .i64 p.sh, .int .i64 p.wi] 26)).alloc (.cells #[.int .i64 a, .int .i64 b] 23)) := by (repeat (first | exact Below.refl _ _ | assumption | refine Below.drew ?_ | refine Below.drewN ?_ _ | refine blT ?_ | refine blU ?_))
  obtain ⟨x1, hx1⟩ : ∃ x, ePl p = x := ⟨_, rfl⟩
  obtain ⟨x2, hx2⟩ : ∃ x, eS a b 0 10000 = x := ⟨_, rfl⟩
  obtain ⟨x3, hx3⟩ : ∃ x, eN shore 0 100000 = x := ⟨_, rfl⟩
  rw [show eWav p a b shore = orE x1 (orE x2 x3) by unfold eWav; rw [hx1, hx2, hx3]]
  rw [hx1] at HC
  have HX2 := Lib.hid hx2
  have HX3 := Lib.hid hx3
  clear hx1 hx2 hx3
  go_enter Try.func102, Try.ntmps102
  go_wp2_with fail
  refine wp_region_held_drew (S := (fun w' => Blk w' w.heap.size #[.int .i64 p.s0, .int .i64 p.s1, (.slice aS p.S.n cS), (.slice aC p.C.n cC), .int .i64 p.ne, .int .i64 p.ed, .int .i64 p.gr, .int .i64 p.lo, .int .i64 p.hi, .int .i64 p.sh, .int .i64 p.wi] 26 ∧ Blk w' (w.heap.size + 1) #[.int .i64 a, .int .i64 b] 23 ∧ Below w.heap.size w w')) (by kernel_rfl) ?_ (fun hH => ?_)
  · (try dsimp only); (exact ⟨jP.drew, jD.drew, jB.drew⟩)
  refine tkY 0 (some 7) ?_ ?_ ?_
  rotate_left
  · intro w hS0; (try dsimp only at hS0); obtain ⟨kP, kD, _⟩ := hS0; obtain ⟨c0, c1, c2, c3, c4, c5, c6, c7, c8, c9, c10⟩ := kP.c11; obtain ⟨d0, d1⟩ := kD.c2; have y1 := kP.lt; have y2 := kD.lt;go_simp; (try with_reducible rfl)
  (try simp only [cq])
  refine tkY 2 (some 9) ?_ ?_ ?_
  rotate_left
  · intro w hS0; (try dsimp only at hS0); obtain ⟨kP, kD, _⟩ := hS0; obtain ⟨c0, c1, c2, c3, c4, c5, c6, c7, c8, c9, c10⟩ := kP.c11; obtain ⟨d0, d1⟩ := kD.c2; have y1 := kP.lt; have y2 := kD.lt;go_simp; (try with_reducible rfl)
  (try simp only [cq])
  refine tkY 4 (some 11) ?_ ?_ ?_
  rotate_left
  · intro w _; go_simp; (try with_reducible rfl)
  (try simp only [cq])
  refine wpAnyH_ready (rs := [1]) (by kernel_rfl) (by simp) ?_
  refine arc1 (some 8) fun K hK => ?_
  go_simp
  (refine (HC.out _ hH.2.2).mono ?_; rintro e w' ⟨rfl, hb⟩)
  refine hK.out _ _ ?_ ?_
  · (exact ⟨hH.1.call hb, hH.2.1.call hb, bwS hH.2.2 (Nat.le_refl _) hb⟩)
  (try clear hH); (try clear hb)
  intro hH
  clear hK K
  (try simp only [cq])
  refine wpAnyH_ready (rs := [3]) (by kernel_rfl) (by simp) ?_
  refine arc1 (some 10) fun K hK => ?_
  go_simp
  (refine (span_any _ _ _ _ _).mono ?_; rw [HX2.out]; rintro e w' ⟨rfl, hb⟩)
  refine hK.out _ _ ?_ ?_
  · (exact ⟨hH.1.call hb, hH.2.1.call hb, bwS hH.2.2 (Nat.le_refl _) hb⟩)
  (try clear hH); (try clear hb)
  intro hH
  clear hK K
  (try simp only [cq])
  refine wpAnyH_ready (rs := [5]) (by kernel_rfl) (by simp) ?_
  refine arc1 (some 12) fun K hK => ?_
  go_simp
  (refine (number_any _ _ _ _).mono ?_; rw [HX3.out]; rintro e w' ⟨rfl, rfl⟩)
  refine hK.out _ _ ?_ ?_
  · exact hH
  (try clear hH); (try clear hb)
  intro hH
  clear hK K
  (try simp only [cq])
  refine wpAnyH_ready (rs := [6]) (by kernel_rfl) (by simp) ?_
  refine arc1 (some 13) fun K hK => ?_
  go_simp
  refine hK.out _ _ ?_ ?_
  · exact ⟨hH.1.alloc _, hH.2.1.alloc _, bwA hH.2.2 (Nat.le_refl _) _⟩
  (try clear hH); (try clear hb)
  intro hH
  clear hK K
  (try simp only [cq])
  refine wpAnyH_ready (rs := [7]) (by kernel_rfl) (by simp) ?_
  refine arc1 (some 14) fun K hK => ?_
  go_simp
  (refine (first_three _ _ x1 x2 x3 _ (by simp) (by simp) (by simp)).mono ?_; rintro e w' ⟨rfl, rfl⟩)
  refine hK.out _ _ ?_ ?_
  · exact hH
  (try clear hH); (try clear hb)
  intro hH
  clear hK K
  (try simp only [cq])
  refine tkY 8 (some 6) ?_ ?_ ?_
  rotate_left
  · intro w _; go_simp; (try with_reducible rfl)
  (try simp only [cq])
  refine wpAnyH_done (by kernel_rfl) ?_ _
  (try dsimp only [Act.put])
  (try simp only [cq])
  have hBB := hH.2.2
  clear hH
  go_wp2
  go_ret
  exact ⟨rfl, hBB⟩

set_option maxRecDepth 100000 in
set_option maxHeartbeats 4000000 in
theorem speed_any (p : Pl) (vS vC : Value) (a b shore v : Int) (w : World) (hS : TabAt w vS p.S) (hC : TabAt w vC p.C) :
    Calls Try.prog 44 #[.agg #[.int .i64 p.s0, .int .i64 p.s1, vS, vC, .int .i64 p.ne, .int .i64 p.ed, .int .i64 p.gr, .int .i64 p.lo, .int .i64 p.hi, .int .i64 p.sh, .int .i64 p.wi], .agg #[.int .i64 a, .int .i64 b], .int .i64 shore, .int .i64 v] w fun e w' => ∃ r, e = .returned (.tuple #[.int .i64 r, .int .i64 (eSpd p a b shore v)]) ∧ (eSpd p a b shore v = 0 → r = calmV p a b shore v) ∧ (eSpd p a b shore v ≠ 0 → r = 0) ∧ Below w.heap.size w w' := by
  obtain ⟨aS, cS, rfl, _, _, _⟩ := id hS
  obtain ⟨aC, cC, rfl, _, _, _⟩ := id hC
  have HW : Hid (∀ W, Below w.heap.size w W → Calls Try.prog 102 #[.agg #[.int .i64 p.s0, .int .i64 p.s1, (.slice aS p.S.n cS), (.slice aC p.C.n cC), .int .i64 p.ne, .int .i64 p.ed, .int .i64 p.gr, .int .i64 p.lo, .int .i64 p.hi, .int .i64 p.sh, .int .i64 p.wi], .agg #[.int .i64 a, .int .i64 b], .int .i64 shore] W fun e w' => e = .returned (.int .i64 (eWav p a b shore)) ∧ Below W.heap.size W w') := fun W hW => waves_any p _ _ a b shore W (PairsAt.later hS hW) (PairsAt.later hC hW)
  have HM : Hid (eSpd p a b shore v = 0 → ∀ W, Calls Try.prog 103 #[.agg #[.int .i64 p.s0, .int .i64 p.s1, (.slice aS p.S.n cS), (.slice aC p.C.n cC), .int .i64 p.ne, .int .i64 p.ed, .int .i64 p.gr, .int .i64 p.lo, .int .i64 p.hi, .int .i64 p.sh, .int .i64 p.wi], .agg #[.int .i64 a, .int .i64 b], .int .i64 shore, .int .i64 v] W fun e w' => e = .returned (.int .i64 (calmV p a b shore v)) ∧ Below W.heap.size W w') := fun h W => by
    obtain ⟨h1, h2⟩ := orE_inv h
    obtain ⟨h3, h4⟩ := orE_inv h1
    obtain ⟨h5, h6⟩ := orE_inv h4
    exact calm_any p (ePl_inv h3) aS aC _ cS _ cC a b shore v (eN_inv h2) (eS_inv h5) W
  obtain ⟨es, hes⟩ : ∃ x, eSpd p a b shore v = x := ⟨_, rfl⟩
  rw [hes] at HM ⊢
  unfold eSpd at hes
  obtain ⟨x2, hx2⟩ : ∃ x, eN v 0 1000 = x := ⟨_, rfl⟩
  rw [hx2] at hes
  generalize eWav p a b shore = x1 at HW hes
  have HX2 := Lib.hid hx2
  have HES := Lib.hid hes
  clear hS hC hx2 hes
  generalize calmV p a b shore v = r at HM ⊢
  have jP := (Blk.new w #[.int .i64 p.s0, .int .i64 p.s1, (.slice aS p.S.n cS), (.slice aC p.C.n cC), .int .i64 p.ne, .int .i64 p.ed, .int .i64 p.gr, .int .i64 p.lo, .int .i64 p.hi, .int .i64 p.sh, .int .i64 p.wi] 26).alloc (.cells #[.int .i64 a, .int .i64 b] 23)
  have jD := Blk.new1 w (.cells #[.int .i64 p.s0, .int .i64 p.s1, (.slice aS p.S.n cS), (.slice aC p.C.n cC), .int .i64 p.ne, .int .i64 p.ed, .int .i64 p.gr, .int .i64 p.lo, .int .i64 p.hi, .int .i64 p.sh, .int .i64 p.wi] 26) #[.int .i64 a, .int .i64 b] 23
  have jB : Below w.heap.size w ((w.alloc (.cells #[.int .i64 p.s0, .int .i64 p.s1, (.slice aS p.S.n cS), (.slice aC p.C.n cC), .int .i64 p.ne, .int .i64 p.ed, .int .i64 p.gr, .int .i64 p.lo, .int .i64 p.hi, .int .i64 p.sh, .int .i64 p.wi] 26)).alloc (.cells #[.int .i64 a, .int .i64 b] 23)) := by (repeat (first | exact Below.refl _ _ | assumption | refine Below.drew ?_ | refine Below.drewN ?_ _ | refine blT ?_ | refine blU ?_))
  go_enter Try.func44, Try.ntmps44
  go_wp2_with fail
  refine (HW.out _ jB).mono ?_
  rintro e w1 ⟨rfl, hb⟩
  replace jP := jP.call hb
  replace jD := jD.call hb
  replace jB := bwS jB (Nat.le_refl _) hb
  clear hb HW
  go_wp2_with fail
  refine (number_any _ _ _ _).mono ?_
  rw [HX2.out]
  rintro e w2 ⟨rfl, rfl⟩
  go_wp2_with fail
  refine (first_two _ _ x1 x2 _ (by simp) (by simp)).mono ?_
  rw [HES.out]
  rintro e w3 ⟨rfl, rfl⟩
  replace jP := jP.alloc (.cells #[.int .i64 x1, .int .i64 x2] 36)
  replace jD := jD.alloc (.cells #[.int .i64 x1, .int .i64 x2] 36)
  replace jB := bwA jB (Nat.le_refl _) (.cells #[.int .i64 x1, .int .i64 x2] 36)
  generalize w1.alloc (.cells #[.int .i64 x1, .int .i64 x2] 36) = V at jP jD jB ⊢
  clear HES HX2
  by_cases h0 : es = 0
  · subst h0
    have HMn := Lib.hid (HM.out rfl)
    clear HM
    obtain ⟨c0, c1, c2, c3, c4, c5, c6, c7, c8, c9, c10⟩ := jP.c11
    obtain ⟨d0, d1⟩ := jD.c2
    have zP := jP.lt
    have zD := jD.lt
    go_wp2_with fail
    refine (HMn.out _).mono ?_
    rintro e w5 ⟨rfl, hb⟩
    replace jB := bwS jB (Nat.le_refl _) hb
    go_wp2
    exact bodyPost_ret (v := .tuple #[.int .i64 r, .int .i64 0]) (by simp [results, Try.results44, go_sem]) rfl (by first | exact ⟨r, rfl, rfl, jB⟩ | exact ⟨r, rfl, fun _ => rfl, fun h => absurd rfl h, jB⟩)
  · have e4 : (es != 0) = true := by simpa using h0
    have HE2 := Lib.hid h0
    clear h0 HM
    go_wp2
    exact bodyPost_ret (v := .tuple #[.int .i64 0, .int .i64 es]) (by simp [results, Try.results44, go_sem]) rfl ⟨0, rfl, fun h => absurd h HE2.out, fun _ => rfl, jB⟩
end Go.Proofs.Ytkkljbbgaogifaa

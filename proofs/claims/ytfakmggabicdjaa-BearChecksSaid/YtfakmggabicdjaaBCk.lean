/-
  BearChecks says yes.
-/
import Derived.Test.YtfakmggabicdjaaTail
import Derived.Test.YtfakmggabicdjaaRQ2
import Derived.Test.YtfakmggabicdjaaRowOf
import Derived.Test.YtfakmggabicdjaaRd
import Derived.Test.YtfakmggabicdjaaAwk2
set_option linter.unusedVariables false
set_option linter.unusedSimpArgs false
namespace Go.Proofs.Ytfakmggabicdjaa
open Go.RowKit

set_option maxRecDepth 100000 in
set_option maxHeartbeats 16000000 in
theorem bchecks_any (p : Pl) (vS vC : Value) (th wt mi : Int) (a : Option Addr) (len cap : Nat) (w : World)
    (hS : TabAt w vS p.S) (hC : TabAt w vC p.C) (hn : NumsAt w a len) :
    Calls Try.prog 3 #[.agg #[.int .i64 p.s0, .int .i64 p.s1, vS, vC, .int .i64 p.ne, .int .i64 p.ed, .int .i64 p.gr, .int .i64 p.lo, .int .i64 p.hi, .int .i64 p.sh, .int .i64 p.wi], .int .i64 th, .int .i64 wt, .int .i64 mi, .slice a len cap] w fun e w' => e = .returned (.bool true) ∧ Below w.heap.size w w' := by
  obtain ⟨aS, cS, rfl, _, _, _⟩ := id hS
  obtain ⟨aC, cC, rfl, _, _, _⟩ := id hC
  have HPar := Lib.hid (And.intro hS hC)
  have HNm := Lib.hid hn
  have HBg : Hid (∀ W, Below w.heap.size w W → Calls Try.prog 17 #[.agg #[.int .i64 p.s0, .int .i64 p.s1, (.slice aS p.S.n cS), (.slice aC p.C.n cC), .int .i64 p.ne, .int .i64 p.ed, .int .i64 p.gr, .int .i64 p.lo, .int .i64 p.hi, .int .i64 p.sh, .int .i64 p.wi]] W fun e w' => e = .returned (.bool (bigV p)) ∧ Below W.heap.size W w') := fun W hW => kbig_any p _ _ W (PairsAt.later hS hW) (PairsAt.later hC hW)
  clear hS hC hn
  have jA := Blk.new w #[.int .i64 p.s0, .int .i64 p.s1, (.slice aS p.S.n cS), (.slice aC p.C.n cC), .int .i64 p.ne, .int .i64 p.ed, .int .i64 p.gr, .int .i64 p.lo, .int .i64 p.hi, .int .i64 p.sh, .int .i64 p.wi] 26
  have jB : Below w.heap.size w (w.alloc (.cells #[.int .i64 p.s0, .int .i64 p.s1, (.slice aS p.S.n cS), (.slice aC p.C.n cC), .int .i64 p.ne, .int .i64 p.ed, .int .i64 p.gr, .int .i64 p.lo, .int .i64 p.hi, .int .i64 p.sh, .int .i64 p.wi] 26)) := by (repeat (first | exact Below.refl _ _ | assumption | refine Below.drew ?_ | refine Below.drewN ?_ _ | refine blT ?_ | refine blU ?_))
  go_enter Try.func3, Try.ntmps3
  go_upto_region 1 with fail
  obtain ⟨bA, hbA⟩ : ∃ b, w.heap.size = b := ⟨_, rfl⟩
  rw [hbA] at jA
  (try rw [hbA])
  have zwA : w.heap.size ≤ bA := by omega
  clear hbA
  generalize w.alloc (.cells #[.int .i64 p.s0, .int .i64 p.s1, (.slice aS p.S.n cS), (.slice aC p.C.n cC), .int .i64 p.ne, .int .i64 p.ed, .int .i64 p.gr, .int .i64 p.lo, .int .i64 p.hi, .int .i64 p.sh, .int .i64 p.wi] 26) = V0 at jA jB ⊢
  obtain ⟨c0, c1, c2, c3, c4, c5, c6, c7, c8, c9, c10⟩ := jA.c11
  have zA := jA.lt
  go_wp2_with fail
  clear c0 c1 c2 c3 c4 c5 c6 c7 c8 c9 c10 zA
  refine (HBg.out _ jB).mono ?_
  rintro e w1 ⟨rfl, hb⟩
  replace jA := jA.call hb
  replace jB := bwS jB (Nat.le_refl _) hb
  clear hb HBg
  cases bigV p with
  | true =>
    go_wp2_with fail
    refine (awake_any _).mono ?_
    rintro e w9 ⟨rfl, hb⟩
    replace jB := bwS jB (Nat.le_refl _) hb
    go_wp2
    go_ret
    exact ⟨rfl, jB⟩
  | false =>
    go_wp2_with fail
    refine (newseed_at a len cap _ (nums_after HNm.out jB)).mono ?_
    rintro e w2 ⟨rfl, hS, hb⟩
    obtain ⟨bs, hbs⟩ : ∃ b, w1.heap.size = b := ⟨_, rfl⟩
    have zAs : bA < bs := by rw [← hbs]; exact jA.lt
    have zwbs : w.heap.size ≤ bs := by omega
    rw [hbs] at hS ⊢
    replace jA := jA.call hb
    replace jB := bwS jB (Nat.le_refl _) hb
    clear hb hbs
    have hb1 := hS.choose_spec.lt
    go_wp2_with fail
    refine (plateof_in bs _ hS).mono ?_
    rintro e w3 ⟨p2, vO, vQ, rfl, hp, rO, rQ, hd⟩
    replace jB := Drawn.below jB hd zwbs
    replace jA := hd.blk jA (by omega)
    replace hS := hd.seed
    replace rO := ownsRow_base (b1 := bs + 1) rO (by omega)
    replace rQ := ownsRow_base (b1 := bs + 1) rQ (by omega)
    clear hd hb1
    obtain ⟨aO, cO, rfl, _, _, _⟩ := pairs_of_row rO
    obtain ⟨aQ, cQ, rfl, _, _, _⟩ := pairs_of_row rQ
    have jO := Blk.new w3 #[.int .i64 p2.s0, .int .i64 p2.s1, (.slice aO p2.S.n cO), (.slice aQ p2.C.n cQ), .int .i64 p2.ne, .int .i64 p2.ed, .int .i64 p2.gr, .int .i64 p2.lo, .int .i64 p2.hi, .int .i64 p2.sh, .int .i64 p2.wi] 26
    go_upto_region 5 with fail
    obtain ⟨bO, hbO⟩ : ∃ b, w3.heap.size = b := ⟨_, rfl⟩
    have zsO : bs < bO := by rw [← hbO]; exact hS.choose_spec.lt
    rw [hbO] at jO
    (try rw [hbO])
    clear hbO
    replace rO := rO.alloc (.cells #[.int .i64 p2.s0, .int .i64 p2.s1, (.slice aO p2.S.n cO), (.slice aQ p2.C.n cQ), .int .i64 p2.ne, .int .i64 p2.ed, .int .i64 p2.gr, .int .i64 p2.lo, .int .i64 p2.hi, .int .i64 p2.sh, .int .i64 p2.wi] 26)
    replace rQ := rQ.alloc (.cells #[.int .i64 p2.s0, .int .i64 p2.s1, (.slice aO p2.S.n cO), (.slice aQ p2.C.n cQ), .int .i64 p2.ne, .int .i64 p2.ed, .int .i64 p2.gr, .int .i64 p2.lo, .int .i64 p2.hi, .int .i64 p2.sh, .int .i64 p2.wi] 26)
    replace jA := jA.alloc (.cells #[.int .i64 p2.s0, .int .i64 p2.s1, (.slice aO p2.S.n cO), (.slice aQ p2.C.n cQ), .int .i64 p2.ne, .int .i64 p2.ed, .int .i64 p2.gr, .int .i64 p2.lo, .int .i64 p2.hi, .int .i64 p2.sh, .int .i64 p2.wi] 26)
    replace hS : SeedAt bs _ := hS.imp fun _ h => h.alloc (.cells #[.int .i64 p2.s0, .int .i64 p2.s1, (.slice aO p2.S.n cO), (.slice aQ p2.C.n cQ), .int .i64 p2.ne, .int .i64 p2.ed, .int .i64 p2.gr, .int .i64 p2.lo, .int .i64 p2.hi, .int .i64 p2.sh, .int .i64 p2.wi] 26)
    replace jB := bwA jB (Nat.le_refl _) (.cells #[.int .i64 p2.s0, .int .i64 p2.s1, (.slice aO p2.S.n cO), (.slice aQ p2.C.n cQ), .int .i64 p2.ne, .int .i64 p2.ed, .int .i64 p2.gr, .int .i64 p2.lo, .int .i64 p2.hi, .int .i64 p2.sh, .int .i64 p2.wi] 26)
    generalize w3.alloc (.cells #[.int .i64 p2.s0, .int .i64 p2.s1, (.slice aO p2.S.n cO), (.slice aQ p2.C.n cQ), .int .i64 p2.ne, .int .i64 p2.ed, .int .i64 p2.gr, .int .i64 p2.lo, .int .i64 p2.hi, .int .i64 p2.sh, .int .i64 p2.wi] 26) = V5 at jO jA rO rQ hS jB ⊢
    go_wp2_with fail
    refine (from_in 200 900 bs _ hS (by decide) (by decide) (by decide) (by decide)).mono ?_
    rintro e w4 ⟨y1, rfl, y10, y11, hd⟩
    replace rO := hd.row rO (by omega)
    replace rQ := hd.row rQ (by omega)
    replace jA := hd.blk jA (by omega)
    replace jO := hd.blk jO (by omega)
    replace jB := Drawn.below jB hd zwbs
    replace hS := hd.seed
    clear hd
    go_wp2_with fail
    refine (of3_in 0 y1 5000 0 5000 bs _ _ (by simp) hS (by decide) (by decide) (by omega) (by omega) (by decide) (by decide)).mono ?_
    rintro e w5 ⟨t, rfl, t0, t1, hd⟩
    replace rO := hd.row (rO.alloc (.cells #[.int .i64 0, .int .i64 y1, .int .i64 5000] 3)) (by omega)
    replace rQ := hd.row (rQ.alloc (.cells #[.int .i64 0, .int .i64 y1, .int .i64 5000] 3)) (by omega)
    replace jA := hd.blk (jA.alloc (.cells #[.int .i64 0, .int .i64 y1, .int .i64 5000] 3)) (by omega)
    replace jO := hd.blk (jO.alloc (.cells #[.int .i64 0, .int .i64 y1, .int .i64 5000] 3)) (by omega)
    replace jB := Drawn.below (bwA jB (Nat.le_refl _) (.cells #[.int .i64 0, .int .i64 y1, .int .i64 5000] 3)) hd zwbs
    replace hS := hd.seed
    clear hd
    go_wp2_with fail
    refine (below_in 2000 bs _ hS (by decide)).mono ?_
    rintro e w6 ⟨y2, rfl, y20, y21, hd⟩
    replace rO := hd.row rO (by omega)
    replace rQ := hd.row rQ (by omega)
    replace jA := hd.blk jA (by omega)
    replace jO := hd.blk jO (by omega)
    replace jB := Drawn.below jB hd zwbs
    replace hS := hd.seed
    clear hd
    go_wp2_with fail
    refine (of3_in 0 y2 10000 0 10000 bs _ _ (by simp) hS (by decide) (by decide) (by omega) (by omega) (by decide) (by decide)).mono ?_
    rintro e w7 ⟨m, rfl, m0, m1, hd⟩
    replace rO := hd.row (rO.alloc (.cells #[.int .i64 0, .int .i64 y2, .int .i64 10000] 3)) (by omega)
    replace rQ := hd.row (rQ.alloc (.cells #[.int .i64 0, .int .i64 y2, .int .i64 10000] 3)) (by omega)
    replace jA := hd.blk (jA.alloc (.cells #[.int .i64 0, .int .i64 y2, .int .i64 10000] 3)) (by omega)
    replace jO := hd.blk (jO.alloc (.cells #[.int .i64 0, .int .i64 y2, .int .i64 10000] 3)) (by omega)
    replace jB := Drawn.below (bwA jB (Nat.le_refl _) (.cells #[.int .i64 0, .int .i64 y2, .int .i64 10000] 3)) hd zwbs
    replace hS := hd.seed
    clear hd
    have hb0 := rbears_any p2 (.slice aO p2.S.n cO) (.slice aQ p2.C.n cQ) t m _ (pairs_of_row rO) (pairs_of_row rQ)
    have hE : e3 p2 (eN t 0 5000) (eN m 0 10000) = 0 := orE_ok (ePl_ok hp) (orE_ok (eN_ok t0 t1) (eN_ok m0 m1))
    rw [hE, if_pos rfl] at hb0
    have hl := lim_in (s := p2.s0) (t := t) (c := p2.C.val m) (by have := hp.s0; have := hp.s01; have := hp.s1; omega) ⟨t0, t1⟩ (hp.C.val_in m)
    have hl2 : 0 ≤ limV p2 false t m ∧ limV p2 false t m ≤ 2500000000000000000 := by unfold limV; simpa [endV] using hl.2.2
    obtain ⟨n0, hn0⟩ : ∃ n, limV p2 false t m / 1000000000000 = n := ⟨_, rfl⟩
    have hn1 : 0 ≤ n0 ∧ n0 ≤ 2500000 := by omega
    rw [hn0] at hb0
    have HBe := Lib.hid hb0
    clear hb0 hE hl hl2 hn0 hp t0 t1 m0 m1 y10 y11 y20 y21
    obtain ⟨d0, d1, d2, d3, d4, d5, d6, d7, d8, d9, d10⟩ := jO.c11
    have zO := jO.lt
    go_wp2_with fail
    clear d0 d1 d2 d3 d4 d5 d6 d7 d8 d9 d10 zO
    refine HBe.out.mono ?_
    rintro e w8 ⟨rfl, hb⟩
    replace rO := row_call rO hb
    replace rQ := row_call rQ hb
    replace jA := jA.call hb
    replace jO := jO.call hb
    replace hS : SeedAt bs w8 := hS.imp fun _ h => h.call hb
    replace jB := bwS jB (Nat.le_refl _) hb
    clear hb HBe
    go_wp2_with fail
    refine (from_in (-1) 1 bs _ hS (by decide) (by decide) (by decide) (by decide)).mono ?_
    rintro e w9 ⟨y3, rfl, y30, y31, hd⟩
    replace rO := hd.row rO (by omega)
    replace rQ := hd.row rQ (by omega)
    replace jA := hd.blk jA (by omega)
    replace jO := hd.blk jO (by omega)
    replace jB := Drawn.below jB hd zwbs
    replace hS := hd.seed
    clear hd
    have ew1 : IntKind.i64.wrap (n0 + y3) = n0 + y3 := IntWalk.i64_in _ (by omega)
    clear hS
    go_upto_region 8 with fail
    obtain ⟨z, hz⟩ : ∃ z, min 200000 (max 0 (n0 + y3)) = z := ⟨_, rfl⟩
    (try rw [hz])
    clear hz ew1
    have j6 := (((Blk.new w9 #[.int .i64 p.s0, .int .i64 p.s1, (.slice aS p.S.n cS), (.slice aC p.C.n cC), .int .i64 p.ne, .int .i64 p.ed, .int .i64 p.gr, .int .i64 p.lo, .int .i64 p.hi, .int .i64 p.sh, .int .i64 p.wi, .int .i64 p2.s0, .int .i64 p2.s1, (.slice aO p2.S.n cO), (.slice aQ p2.C.n cQ), .int .i64 p2.ne, .int .i64 p2.ed, .int .i64 p2.gr, .int .i64 p2.lo, .int .i64 p2.hi, .int .i64 p2.sh, .int .i64 p2.wi, .int .i64 p2.s0, .int .i64 p2.s1, (.slice aO p2.S.n cO), (.slice aQ p2.C.n cQ), .int .i64 p2.ne, .int .i64 p2.ed, .int .i64 p2.gr, .int .i64 p2.lo, .int .i64 p2.hi, .int .i64 p2.sh, .int .i64 p2.wi] 26).alloc (.cells #[.int .i64 th, .int .i64 t, .int .i64 th] 3)).alloc (.cells #[.int .i64 wt, .int .i64 z, .int .i64 wt] 3)).alloc (.cells #[.int .i64 mi, .int .i64 m, .int .i64 mi] 3)
    have j7 := ((Blk.new1 w9 (.cells #[.int .i64 p.s0, .int .i64 p.s1, (.slice aS p.S.n cS), (.slice aC p.C.n cC), .int .i64 p.ne, .int .i64 p.ed, .int .i64 p.gr, .int .i64 p.lo, .int .i64 p.hi, .int .i64 p.sh, .int .i64 p.wi, .int .i64 p2.s0, .int .i64 p2.s1, (.slice aO p2.S.n cO), (.slice aQ p2.C.n cQ), .int .i64 p2.ne, .int .i64 p2.ed, .int .i64 p2.gr, .int .i64 p2.lo, .int .i64 p2.hi, .int .i64 p2.sh, .int .i64 p2.wi, .int .i64 p2.s0, .int .i64 p2.s1, (.slice aO p2.S.n cO), (.slice aQ p2.C.n cQ), .int .i64 p2.ne, .int .i64 p2.ed, .int .i64 p2.gr, .int .i64 p2.lo, .int .i64 p2.hi, .int .i64 p2.sh, .int .i64 p2.wi] 26) #[.int .i64 th, .int .i64 t, .int .i64 th] 3).alloc (.cells #[.int .i64 wt, .int .i64 z, .int .i64 wt] 3)).alloc (.cells #[.int .i64 mi, .int .i64 m, .int .i64 mi] 3)
    have j8 := (Blk.new2 w9 (.cells #[.int .i64 p.s0, .int .i64 p.s1, (.slice aS p.S.n cS), (.slice aC p.C.n cC), .int .i64 p.ne, .int .i64 p.ed, .int .i64 p.gr, .int .i64 p.lo, .int .i64 p.hi, .int .i64 p.sh, .int .i64 p.wi, .int .i64 p2.s0, .int .i64 p2.s1, (.slice aO p2.S.n cO), (.slice aQ p2.C.n cQ), .int .i64 p2.ne, .int .i64 p2.ed, .int .i64 p2.gr, .int .i64 p2.lo, .int .i64 p2.hi, .int .i64 p2.sh, .int .i64 p2.wi, .int .i64 p2.s0, .int .i64 p2.s1, (.slice aO p2.S.n cO), (.slice aQ p2.C.n cQ), .int .i64 p2.ne, .int .i64 p2.ed, .int .i64 p2.gr, .int .i64 p2.lo, .int .i64 p2.hi, .int .i64 p2.sh, .int .i64 p2.wi] 26) (.cells #[.int .i64 th, .int .i64 t, .int .i64 th] 3) #[.int .i64 wt, .int .i64 z, .int .i64 wt] 3).alloc (.cells #[.int .i64 mi, .int .i64 m, .int .i64 mi] 3)
    have j9 := Blk.new3 w9 (.cells #[.int .i64 p.s0, .int .i64 p.s1, (.slice aS p.S.n cS), (.slice aC p.C.n cC), .int .i64 p.ne, .int .i64 p.ed, .int .i64 p.gr, .int .i64 p.lo, .int .i64 p.hi, .int .i64 p.sh, .int .i64 p.wi, .int .i64 p2.s0, .int .i64 p2.s1, (.slice aO p2.S.n cO), (.slice aQ p2.C.n cQ), .int .i64 p2.ne, .int .i64 p2.ed, .int .i64 p2.gr, .int .i64 p2.lo, .int .i64 p2.hi, .int .i64 p2.sh, .int .i64 p2.wi, .int .i64 p2.s0, .int .i64 p2.s1, (.slice aO p2.S.n cO), (.slice aQ p2.C.n cQ), .int .i64 p2.ne, .int .i64 p2.ed, .int .i64 p2.gr, .int .i64 p2.lo, .int .i64 p2.hi, .int .i64 p2.sh, .int .i64 p2.wi] 26) (.cells #[.int .i64 th, .int .i64 t, .int .i64 th] 3) (.cells #[.int .i64 wt, .int .i64 z, .int .i64 wt] 3) #[.int .i64 mi, .int .i64 m, .int .i64 mi] 3
    obtain ⟨c0, c1, c2, c3, c4, c5, c6, c7, c8, c9, c10⟩ := jA.c11
    obtain ⟨d0, d1, d2, d3, d4, d5, d6, d7, d8, d9, d10⟩ := jO.c11
    have zA := jA.lt
    have zO := jO.lt
    go_upto_region 9 with fail
    clear c0 c1 c2 c3 c4 c5 c6 c7 c8 c9 c10 d0 d1 d2 d3 d4 d5 d6 d7 d8 d9 d10 zA zO jA jO
    have hW : Below w9.heap.size w9 ((((w9.alloc (.cells #[.int .i64 p.s0, .int .i64 p.s1, (.slice aS p.S.n cS), (.slice aC p.C.n cC), .int .i64 p.ne, .int .i64 p.ed, .int .i64 p.gr, .int .i64 p.lo, .int .i64 p.hi, .int .i64 p.sh, .int .i64 p.wi, .int .i64 p2.s0, .int .i64 p2.s1, (.slice aO p2.S.n cO), (.slice aQ p2.C.n cQ), .int .i64 p2.ne, .int .i64 p2.ed, .int .i64 p2.gr, .int .i64 p2.lo, .int .i64 p2.hi, .int .i64 p2.sh, .int .i64 p2.wi, .int .i64 p2.s0, .int .i64 p2.s1, (.slice aO p2.S.n cO), (.slice aQ p2.C.n cQ), .int .i64 p2.ne, .int .i64 p2.ed, .int .i64 p2.gr, .int .i64 p2.lo, .int .i64 p2.hi, .int .i64 p2.sh, .int .i64 p2.wi] 26)).alloc (.cells #[.int .i64 th, .int .i64 t, .int .i64 th] 3)).alloc (.cells #[.int .i64 wt, .int .i64 z, .int .i64 wt] 3)).alloc (.cells #[.int .i64 mi, .int .i64 m, .int .i64 mi] 3)) := by (repeat (first | exact Below.refl _ _ | assumption | refine Below.drew ?_ | refine Below.drewN ?_ _ | refine blT ?_ | refine blU ?_))
    replace jB := bwS jB (Nat.le_refl _) hW
    replace rO := PairsAt.later (pairs_of_row rO) hW
    replace rQ := PairsAt.later (pairs_of_row rQ) hW
    obtain ⟨b6, hb6⟩ : ∃ b, w9.heap.size = b := ⟨_, rfl⟩
    obtain ⟨b7, hb7⟩ : ∃ b, b6 + 1 = b := ⟨_, rfl⟩
    obtain ⟨b8, hb8⟩ : ∃ b, b7 + 1 = b := ⟨_, rfl⟩
    obtain ⟨b9, hb9⟩ : ∃ b, b8 + 1 = b := ⟨_, rfl⟩
    rw [hb6] at j6 j7 j8 j9
    (try rw [hb6])
    rw [hb7] at j7 j8 j9
    (try rw [hb7])
    rw [hb8] at j8 j9
    (try rw [hb8])
    rw [hb9] at j9
    (try rw [hb9])
    clear hb6 hb7 hb8 hb9 hW
    generalize (((w9.alloc (.cells #[.int .i64 p.s0, .int .i64 p.s1, (.slice aS p.S.n cS), (.slice aC p.C.n cC), .int .i64 p.ne, .int .i64 p.ed, .int .i64 p.gr, .int .i64 p.lo, .int .i64 p.hi, .int .i64 p.sh, .int .i64 p.wi, .int .i64 p2.s0, .int .i64 p2.s1, (.slice aO p2.S.n cO), (.slice aQ p2.C.n cQ), .int .i64 p2.ne, .int .i64 p2.ed, .int .i64 p2.gr, .int .i64 p2.lo, .int .i64 p2.hi, .int .i64 p2.sh, .int .i64 p2.wi, .int .i64 p2.s0, .int .i64 p2.s1, (.slice aO p2.S.n cO), (.slice aQ p2.C.n cQ), .int .i64 p2.ne, .int .i64 p2.ed, .int .i64 p2.gr, .int .i64 p2.lo, .int .i64 p2.hi, .int .i64 p2.sh, .int .i64 p2.wi] 26)).alloc (.cells #[.int .i64 th, .int .i64 t, .int .i64 th] 3)).alloc (.cells #[.int .i64 wt, .int .i64 z, .int .i64 wt] 3)).alloc (.cells #[.int .i64 mi, .int .i64 m, .int .i64 mi] 3) = V at j6 j7 j8 j9 jB rO rQ ⊢
    obtain ⟨qS, qC⟩ := HPar.out
    have HB := Lib.hid jB
    have HRd : Hid (∀ k, k < 3 → ∃ (x : Pl) (uS uC : Value) (q1 q2 q3 : Int), Pq V b6 k x uS uC ∧ V.cell? ⟨b7, k, none⟩ = some (.int .i64 q1) ∧ V.cell? ⟨b8, k, none⟩ = some (.int .i64 q2) ∧ V.cell? ⟨b9, k, none⟩ = some (.int .i64 q3)) := fun k hk => by
      obtain rfl | rfl | rfl : k = 0 ∨ k = 1 ∨ k = 2 := by omega
      · exact ⟨p, _, _, _, _, _, ⟨⟨j6.cell (0 * 11) rfl, j6.cell (0 * 11 + 1) rfl, j6.cell (0 * 11 + 2) rfl, j6.cell (0 * 11 + 3) rfl, j6.cell (0 * 11 + 4) rfl, j6.cell (0 * 11 + 5) rfl, j6.cell (0 * 11 + 6) rfl, j6.cell (0 * 11 + 7) rfl, j6.cell (0 * 11 + 8) rfl, j6.cell (0 * 11 + 9) rfl, j6.cell (0 * 11 + 10) rfl⟩, PairsAt.later qS jB, PairsAt.later qC jB⟩, j7.cell 0 rfl, j8.cell 0 rfl, j9.cell 0 rfl⟩
      · exact ⟨p2, _, _, _, _, _, ⟨⟨j6.cell (1 * 11) rfl, j6.cell (1 * 11 + 1) rfl, j6.cell (1 * 11 + 2) rfl, j6.cell (1 * 11 + 3) rfl, j6.cell (1 * 11 + 4) rfl, j6.cell (1 * 11 + 5) rfl, j6.cell (1 * 11 + 6) rfl, j6.cell (1 * 11 + 7) rfl, j6.cell (1 * 11 + 8) rfl, j6.cell (1 * 11 + 9) rfl, j6.cell (1 * 11 + 10) rfl⟩, rO, rQ⟩, j7.cell 1 rfl, j8.cell 1 rfl, j9.cell 1 rfl⟩
      · exact ⟨p2, _, _, _, _, _, ⟨⟨j6.cell (2 * 11) rfl, j6.cell (2 * 11 + 1) rfl, j6.cell (2 * 11 + 2) rfl, j6.cell (2 * 11 + 3) rfl, j6.cell (2 * 11 + 4) rfl, j6.cell (2 * 11 + 5) rfl, j6.cell (2 * 11 + 6) rfl, j6.cell (2 * 11 + 7) rfl, j6.cell (2 * 11 + 8) rfl, j6.cell (2 * 11 + 9) rfl, j6.cell (2 * 11 + 10) rfl⟩, rO, rQ⟩, j7.cell 2 rfl, j8.cell 2 rfl, j9.cell 2 rfl⟩
    clear j6 j7 j8 j9 jB rO rQ qS qC HPar HNm zAs zwbs zsO zwA hn1 y30 y31
    go_wp2_with fail
    go_loopw [21] (fun i wr => ∃ k : Nat, k ≤ 3 ∧ i = .int .i64 k ∧ Below V.heap.size V wr) (fun i _ => 3 - (intOf i).toNat)
    case atStart => exact ⟨0, by omega, rfl, Below.refl _ _⟩
    case round =>
      obtain ⟨k, hk, rfl, hB⟩ := hrel
      by_cases hlt2 : k < 3
      · obtain ⟨x, uS, uC, q1, q2, q3, hP, hT1, hT2, hT3⟩ := HRd.out k hlt2
        have hk3 : (k : Int) < 3 := by omega
        have HP := Lib.hid hP
        have HT1 := Lib.hid hT1
        have HT2 := Lib.hid hT2
        have HT3 := Lib.hid hT3
        have HG0 : Hid (∀ W, Below V.heap.size V W → Calls Try.prog 25 #[.agg #[.int .i64 x.s0, .int .i64 x.s1, uS, uC, .int .i64 x.ne, .int .i64 x.ed, .int .i64 x.gr, .int .i64 x.lo, .int .i64 x.hi, .int .i64 x.sh, .int .i64 x.wi], .int .i64 q1, .int .i64 q3] W fun e w' => e = .returned (.tuple #[.int .i64 ((if e3 x (eN q1 0 5000) (eN q3 0 10000) = 0 then limV x false q1 q3 / 1000000000000 else 0)), .int .i64 (e3 x (eN q1 0 5000) (eN q3 0 10000))]) ∧ Below W.heap.size W w') := fun W hW => bears_full x uS uC q1 q3 W (PairsAt.later hP.S hW) (PairsAt.later hP.C hW)
        have HG1 : Hid (∀ W, Below V.heap.size V W → Calls Try.prog 24 #[.agg #[.int .i64 x.s0, .int .i64 x.s1, uS, uC, .int .i64 x.ne, .int .i64 x.ed, .int .i64 x.gr, .int .i64 x.lo, .int .i64 x.hi, .int .i64 x.sh, .int .i64 x.wi], .int .i64 q1, .int .i64 q3] W fun e w' => e = .returned (.tuple #[.int .i64 ((if e3 x (eN q1 0 5000) (eN q3 0 10000) = 0 then limV x false q1 q3 / 1000000000000 else 0)), .int .i64 (e3 x (eN q1 0 5000) (eN q3 0 10000))]) ∧ Below W.heap.size W w') := fun W hW => rbears_any x uS uC q1 q3 W (PairsAt.later hP.S hW) (PairsAt.later hP.C hW)
        have HG2 : Hid (∀ W, Below V.heap.size V W → Calls Try.prog 26 #[.agg #[.int .i64 x.s0, .int .i64 x.s1, uS, uC, .int .i64 x.ne, .int .i64 x.ed, .int .i64 x.gr, .int .i64 x.lo, .int .i64 x.hi, .int .i64 x.sh, .int .i64 x.wi], .int .i64 q2, .int .i64 q3] W fun e w' => e = .returned (.tuple #[.int .i64 (needR x q2 q3), .int .i64 (needE x q2 q3)]) ∧ Below W.heap.size W w') := fun W hW => need_full x uS uC q2 q3 W (PairsAt.later hP.S hW) (PairsAt.later hP.C hW)
        have HG3 : Hid (∀ W, Below V.heap.size V W → Calls Try.prog 27 #[.agg #[.int .i64 x.s0, .int .i64 x.s1, uS, uC, .int .i64 x.ne, .int .i64 x.ed, .int .i64 x.gr, .int .i64 x.lo, .int .i64 x.hi, .int .i64 x.sh, .int .i64 x.wi], .int .i64 q2, .int .i64 q3] W fun e w' => e = .returned (.tuple #[.int .i64 (needR x q2 q3), .int .i64 (needE x q2 q3)]) ∧ Below W.heap.size W w') := fun W hW => rneed_any x uS uC q2 q3 W (PairsAt.later hP.S hW) (PairsAt.later hP.C hW)
        have HG4 : Hid (∀ W, Below V.heap.size V W → Calls Try.prog 28 #[.agg #[.int .i64 x.s0, .int .i64 x.s1, uS, uC, .int .i64 x.ne, .int .i64 x.ed, .int .i64 x.gr, .int .i64 x.lo, .int .i64 x.hi, .int .i64 x.sh, .int .i64 x.wi], .int .i64 q1, .int .i64 q2] W fun e w' => e = .returned (.tuple #[.int .i64 (standR x q1 q2), .int .i64 (e3 x (eN q1 0 5000) (eN q2 0 200000))]) ∧ Below W.heap.size W w') := fun W hW => stands_full x uS uC q1 q2 W (PairsAt.later hP.S hW) (PairsAt.later hP.C hW)
        have HG5 : Hid (∀ W, Below V.heap.size V W → Calls Try.prog 29 #[.agg #[.int .i64 x.s0, .int .i64 x.s1, uS, uC, .int .i64 x.ne, .int .i64 x.ed, .int .i64 x.gr, .int .i64 x.lo, .int .i64 x.hi, .int .i64 x.sh, .int .i64 x.wi], .int .i64 q1, .int .i64 q2] W fun e w' => e = .returned (.tuple #[.int .i64 (standR x q1 q2), .int .i64 (e3 x (eN q1 0 5000) (eN q2 0 200000))]) ∧ Below W.heap.size W w') := fun W hW => rstands_any x uS uC q1 q2 W (PairsAt.later hP.S hW) (PairsAt.later hP.C hW)
        have HG6 : Hid (∀ W, Below V.heap.size V W → Calls Try.prog 30 #[.agg #[.int .i64 x.s0, .int .i64 x.s1, uS, uC, .int .i64 x.ne, .int .i64 x.ed, .int .i64 x.gr, .int .i64 x.lo, .int .i64 x.hi, .int .i64 x.sh, .int .i64 x.wi]] W fun e w' => e = .returned (.int .i64 (ePl x)) ∧ Below W.heap.size W w') := fun W hW => check_any x uS uC W (PairsAt.later hP.S hW) (PairsAt.later hP.C hW)
        have HG7 : Hid (∀ W, Below V.heap.size V W → Calls Try.prog 31 #[.agg #[.int .i64 x.s0, .int .i64 x.s1, uS, uC, .int .i64 x.ne, .int .i64 x.ed, .int .i64 x.gr, .int .i64 x.lo, .int .i64 x.hi, .int .i64 x.sh, .int .i64 x.wi]] W fun e w' => e = .returned (.int .i64 (ePl x)) ∧ Below W.heap.size W w') := fun W hW => rcheck_any x uS uC W (PairsAt.later hP.S hW) (PairsAt.later hP.C hW)
        obtain ⟨r1, hr1⟩ : ∃ r1, (if e3 x (eN q1 0 5000) (eN q3 0 10000) = 0 then limV x false q1 q3 / 1000000000000 else 0) = r1 := ⟨_, rfl⟩
        obtain ⟨f1, hf1⟩ : ∃ f1, e3 x (eN q1 0 5000) (eN q3 0 10000) = f1 := ⟨_, rfl⟩
        rw [hr1, hf1] at HG0 HG1
        generalize needR x q2 q3 = r2 at HG2 HG3
        generalize needE x q2 q3 = f2 at HG2 HG3
        generalize standR x q1 q2 = r3 at HG4 HG5
        obtain ⟨f3, hf3⟩ : ∃ f3, e3 x (eN q1 0 5000) (eN q2 0 200000) = f3 := ⟨_, rfl⟩
        rw [hf3] at HG4 HG5
        generalize ePl x = f4 at HG6 HG7
        clear hr1 hf1 hf3
        clear hP hT1 hT2 hT3 HRd
        go_upto_region 12 with fail
        refine wp_region_held_drew (S := (fun v => Below V.heap.size V v)) (by kernel_rfl) ?_ (fun hH => ?_)
        · (try dsimp only); (exact hB.drew)
        refine tkY 0 (some 87) ?_ ?_ ?_
        rotate_left
        · intro w _; go_simp; (try with_reducible rfl)
        (try simp only [cq])
        refine tkY 1 (some 88) ?_ ?_ ?_
        rotate_left
        · intro w _; go_simp; (try with_reducible rfl)
        (try simp only [cq])
        refine tkY 2 (some 89) ?_ ?_ ?_
        rotate_left
        · intro w hS0; (try dsimp only at hS0); have kB := hS0; have c0 := cell_later kB HP.out.c.1; have c1 := cell_later kB HP.out.c.2.1; have c2 := cell_later kB HP.out.c.2.2.1; have c3 := cell_later kB HP.out.c.2.2.2.1; have c4 := cell_later kB HP.out.c.2.2.2.2.1; have c5 := cell_later kB HP.out.c.2.2.2.2.2.1; have c6 := cell_later kB HP.out.c.2.2.2.2.2.2.1; have c7 := cell_later kB HP.out.c.2.2.2.2.2.2.2.1; have c8 := cell_later kB HP.out.c.2.2.2.2.2.2.2.2.1; have c9 := cell_later kB HP.out.c.2.2.2.2.2.2.2.2.2.1; have c10 := cell_later kB HP.out.c.2.2.2.2.2.2.2.2.2.2; have t0 := cell_later kB HT1.out; have u0 := cell_later kB HT3.out; have y1 := World.block_lt_of_cell? _ _ c0; have y2 := World.block_lt_of_cell? _ _ t0; have y3 := World.block_lt_of_cell? _ _ u0;go_simp; (try with_reducible rfl)
        (try simp only [cq])
        refine tkY 3 (some 90) ?_ ?_ ?_
        rotate_left
        · intro w hS0; (try dsimp only at hS0); have kB := hS0; have c0 := cell_later kB HP.out.c.1; have c1 := cell_later kB HP.out.c.2.1; have c2 := cell_later kB HP.out.c.2.2.1; have c3 := cell_later kB HP.out.c.2.2.2.1; have c4 := cell_later kB HP.out.c.2.2.2.2.1; have c5 := cell_later kB HP.out.c.2.2.2.2.2.1; have c6 := cell_later kB HP.out.c.2.2.2.2.2.2.1; have c7 := cell_later kB HP.out.c.2.2.2.2.2.2.2.1; have c8 := cell_later kB HP.out.c.2.2.2.2.2.2.2.2.1; have c9 := cell_later kB HP.out.c.2.2.2.2.2.2.2.2.2.1; have c10 := cell_later kB HP.out.c.2.2.2.2.2.2.2.2.2.2; have t0 := cell_later kB HT1.out; have u0 := cell_later kB HT3.out; have y1 := World.block_lt_of_cell? _ _ c0; have y2 := World.block_lt_of_cell? _ _ t0; have y3 := World.block_lt_of_cell? _ _ u0;go_simp; (try with_reducible rfl)
        (try simp only [cq])
        refine tkY 4 (some 91) ?_ ?_ ?_
        rotate_left
        · intro w _; go_simp; (try with_reducible rfl)
        (try simp only [cq])
        refine tkY 5 (some 92) ?_ ?_ ?_
        rotate_left
        · intro w _; go_simp; (try with_reducible rfl)
        (try simp only [cq])
        refine tkY 6 (some 93) ?_ ?_ ?_
        rotate_left
        · intro w hS0; (try dsimp only at hS0); have kB := hS0; have c0 := cell_later kB HP.out.c.1; have c1 := cell_later kB HP.out.c.2.1; have c2 := cell_later kB HP.out.c.2.2.1; have c3 := cell_later kB HP.out.c.2.2.2.1; have c4 := cell_later kB HP.out.c.2.2.2.2.1; have c5 := cell_later kB HP.out.c.2.2.2.2.2.1; have c6 := cell_later kB HP.out.c.2.2.2.2.2.2.1; have c7 := cell_later kB HP.out.c.2.2.2.2.2.2.2.1; have c8 := cell_later kB HP.out.c.2.2.2.2.2.2.2.2.1; have c9 := cell_later kB HP.out.c.2.2.2.2.2.2.2.2.2.1; have c10 := cell_later kB HP.out.c.2.2.2.2.2.2.2.2.2.2; have t0 := cell_later kB HT1.out; have u0 := cell_later kB HT3.out; have y1 := World.block_lt_of_cell? _ _ c0; have y2 := World.block_lt_of_cell? _ _ t0; have y3 := World.block_lt_of_cell? _ _ u0;go_simp; (try with_reducible rfl)
        (try simp only [cq])
        refine tkY 7 (some 94) ?_ ?_ ?_
        rotate_left
        · intro w hS0; (try dsimp only at hS0); have kB := hS0; have c0 := cell_later kB HP.out.c.1; have c1 := cell_later kB HP.out.c.2.1; have c2 := cell_later kB HP.out.c.2.2.1; have c3 := cell_later kB HP.out.c.2.2.2.1; have c4 := cell_later kB HP.out.c.2.2.2.2.1; have c5 := cell_later kB HP.out.c.2.2.2.2.2.1; have c6 := cell_later kB HP.out.c.2.2.2.2.2.2.1; have c7 := cell_later kB HP.out.c.2.2.2.2.2.2.2.1; have c8 := cell_later kB HP.out.c.2.2.2.2.2.2.2.2.1; have c9 := cell_later kB HP.out.c.2.2.2.2.2.2.2.2.2.1; have c10 := cell_later kB HP.out.c.2.2.2.2.2.2.2.2.2.2; have t0 := cell_later kB HT1.out; have u0 := cell_later kB HT3.out; have y1 := World.block_lt_of_cell? _ _ c0; have y2 := World.block_lt_of_cell? _ _ t0; have y3 := World.block_lt_of_cell? _ _ u0;go_simp; (try with_reducible rfl)
        (try simp only [cq])
        refine tkY 8 (some 95) ?_ ?_ ?_
        rotate_left
        · intro w _; go_simp; (try with_reducible rfl)
        (try simp only [cq])
        refine tkY 9 (some 96) ?_ ?_ ?_
        rotate_left
        · intro w _; go_simp; (try with_reducible rfl)
        (try simp only [cq])
        refine tkY 10 (some 97) ?_ ?_ ?_
        rotate_left
        · intro w hS0; (try dsimp only at hS0); have kB := hS0; have c0 := cell_later kB HP.out.c.1; have c1 := cell_later kB HP.out.c.2.1; have c2 := cell_later kB HP.out.c.2.2.1; have c3 := cell_later kB HP.out.c.2.2.2.1; have c4 := cell_later kB HP.out.c.2.2.2.2.1; have c5 := cell_later kB HP.out.c.2.2.2.2.2.1; have c6 := cell_later kB HP.out.c.2.2.2.2.2.2.1; have c7 := cell_later kB HP.out.c.2.2.2.2.2.2.2.1; have c8 := cell_later kB HP.out.c.2.2.2.2.2.2.2.2.1; have c9 := cell_later kB HP.out.c.2.2.2.2.2.2.2.2.2.1; have c10 := cell_later kB HP.out.c.2.2.2.2.2.2.2.2.2.2; have t0 := cell_later kB HT1.out; have u0 := cell_later kB HT3.out; have y1 := World.block_lt_of_cell? _ _ c0; have y2 := World.block_lt_of_cell? _ _ t0; have y3 := World.block_lt_of_cell? _ _ u0;go_simp; (try with_reducible rfl)
        (try simp only [cq])
        refine tkY 11 (some 98) ?_ ?_ ?_
        rotate_left
        · intro w hS0; (try dsimp only at hS0); have kB := hS0; have c0 := cell_later kB HP.out.c.1; have c1 := cell_later kB HP.out.c.2.1; have c2 := cell_later kB HP.out.c.2.2.1; have c3 := cell_later kB HP.out.c.2.2.2.1; have c4 := cell_later kB HP.out.c.2.2.2.2.1; have c5 := cell_later kB HP.out.c.2.2.2.2.2.1; have c6 := cell_later kB HP.out.c.2.2.2.2.2.2.1; have c7 := cell_later kB HP.out.c.2.2.2.2.2.2.2.1; have c8 := cell_later kB HP.out.c.2.2.2.2.2.2.2.2.1; have c9 := cell_later kB HP.out.c.2.2.2.2.2.2.2.2.2.1; have c10 := cell_later kB HP.out.c.2.2.2.2.2.2.2.2.2.2; have t0 := cell_later kB HT1.out; have u0 := cell_later kB HT3.out; have y1 := World.block_lt_of_cell? _ _ c0; have y2 := World.block_lt_of_cell? _ _ t0; have y3 := World.block_lt_of_cell? _ _ u0;go_simp; (try with_reducible rfl)
        (try simp only [cq])
        refine wpAnyH_ready (rs := [12]) (by kernel_rfl) (by simp) ?_
        refine arc1 (some 99) fun K hK => ?_
        go_simp
        (refine (HG0.out _ hH).mono ?_; rintro e w' ⟨rfl, hb⟩)
        refine hK.out _ _ ?_ ?_
        · (exact bwS hH (Nat.le_refl _) hb)
        (try clear hH); (try clear hb)
        intro hH
        clear hK K
        (try simp only [cq])
        refine tkY 13 (some 86) ?_ ?_ ?_
        rotate_left
        · intro w _; go_simp; (try with_reducible rfl)
        (try simp only [cq])
        refine tkY 14 (some 100) ?_ ?_ ?_
        rotate_left
        · intro w _; go_simp; (try with_reducible rfl)
        (try simp only [cq])
        refine tkY 15 (some 101) ?_ ?_ ?_
        rotate_left
        · intro w _; go_simp; (try with_reducible rfl)
        (try simp only [cq])
        refine tkY 16 (some 22) ?_ ?_ ?_
        rotate_left
        · intro w _; go_simp; (try with_reducible rfl)
        (try simp only [cq])
        refine tkY 17 (some 23) ?_ ?_ ?_
        rotate_left
        · intro w _; go_simp; (try with_reducible rfl)
        (try simp only [cq])
        refine wpAnyH_done (by kernel_rfl) ?_ _
        (try dsimp only [Act.put])
        (try simp only [cq])
        clear hB HG0
        have hB := hH
        clear hH
        go_upto_region 13 with fail
        refine wp_region_held_drew (S := (fun v => Below V.heap.size V v)) (by kernel_rfl) ?_ (fun hH => ?_)
        · (try dsimp only); (exact hB.drew)
        refine tkY 0 (some 103) ?_ ?_ ?_
        rotate_left
        · intro w _; go_simp; (try with_reducible rfl)
        (try simp only [cq])
        refine tkY 1 (some 104) ?_ ?_ ?_
        rotate_left
        · intro w _; go_simp; (try with_reducible rfl)
        (try simp only [cq])
        refine tkY 2 (some 105) ?_ ?_ ?_
        rotate_left
        · intro w hS0; (try dsimp only at hS0); have kB := hS0; have c0 := cell_later kB HP.out.c.1; have c1 := cell_later kB HP.out.c.2.1; have c2 := cell_later kB HP.out.c.2.2.1; have c3 := cell_later kB HP.out.c.2.2.2.1; have c4 := cell_later kB HP.out.c.2.2.2.2.1; have c5 := cell_later kB HP.out.c.2.2.2.2.2.1; have c6 := cell_later kB HP.out.c.2.2.2.2.2.2.1; have c7 := cell_later kB HP.out.c.2.2.2.2.2.2.2.1; have c8 := cell_later kB HP.out.c.2.2.2.2.2.2.2.2.1; have c9 := cell_later kB HP.out.c.2.2.2.2.2.2.2.2.2.1; have c10 := cell_later kB HP.out.c.2.2.2.2.2.2.2.2.2.2; have t0 := cell_later kB HT1.out; have u0 := cell_later kB HT3.out; have y1 := World.block_lt_of_cell? _ _ c0; have y2 := World.block_lt_of_cell? _ _ t0; have y3 := World.block_lt_of_cell? _ _ u0;go_simp; (try with_reducible rfl)
        (try simp only [cq])
        refine tkY 3 (some 106) ?_ ?_ ?_
        rotate_left
        · intro w hS0; (try dsimp only at hS0); have kB := hS0; have c0 := cell_later kB HP.out.c.1; have c1 := cell_later kB HP.out.c.2.1; have c2 := cell_later kB HP.out.c.2.2.1; have c3 := cell_later kB HP.out.c.2.2.2.1; have c4 := cell_later kB HP.out.c.2.2.2.2.1; have c5 := cell_later kB HP.out.c.2.2.2.2.2.1; have c6 := cell_later kB HP.out.c.2.2.2.2.2.2.1; have c7 := cell_later kB HP.out.c.2.2.2.2.2.2.2.1; have c8 := cell_later kB HP.out.c.2.2.2.2.2.2.2.2.1; have c9 := cell_later kB HP.out.c.2.2.2.2.2.2.2.2.2.1; have c10 := cell_later kB HP.out.c.2.2.2.2.2.2.2.2.2.2; have t0 := cell_later kB HT1.out; have u0 := cell_later kB HT3.out; have y1 := World.block_lt_of_cell? _ _ c0; have y2 := World.block_lt_of_cell? _ _ t0; have y3 := World.block_lt_of_cell? _ _ u0;go_simp; (try with_reducible rfl)
        (try simp only [cq])
        refine tkY 4 (some 107) ?_ ?_ ?_
        rotate_left
        · intro w _; go_simp; (try with_reducible rfl)
        (try simp only [cq])
        refine tkY 5 (some 108) ?_ ?_ ?_
        rotate_left
        · intro w _; go_simp; (try with_reducible rfl)
        (try simp only [cq])
        refine tkY 6 (some 109) ?_ ?_ ?_
        rotate_left
        · intro w hS0; (try dsimp only at hS0); have kB := hS0; have c0 := cell_later kB HP.out.c.1; have c1 := cell_later kB HP.out.c.2.1; have c2 := cell_later kB HP.out.c.2.2.1; have c3 := cell_later kB HP.out.c.2.2.2.1; have c4 := cell_later kB HP.out.c.2.2.2.2.1; have c5 := cell_later kB HP.out.c.2.2.2.2.2.1; have c6 := cell_later kB HP.out.c.2.2.2.2.2.2.1; have c7 := cell_later kB HP.out.c.2.2.2.2.2.2.2.1; have c8 := cell_later kB HP.out.c.2.2.2.2.2.2.2.2.1; have c9 := cell_later kB HP.out.c.2.2.2.2.2.2.2.2.2.1; have c10 := cell_later kB HP.out.c.2.2.2.2.2.2.2.2.2.2; have t0 := cell_later kB HT1.out; have u0 := cell_later kB HT3.out; have y1 := World.block_lt_of_cell? _ _ c0; have y2 := World.block_lt_of_cell? _ _ t0; have y3 := World.block_lt_of_cell? _ _ u0;go_simp; (try with_reducible rfl)
        (try simp only [cq])
        refine tkY 7 (some 110) ?_ ?_ ?_
        rotate_left
        · intro w hS0; (try dsimp only at hS0); have kB := hS0; have c0 := cell_later kB HP.out.c.1; have c1 := cell_later kB HP.out.c.2.1; have c2 := cell_later kB HP.out.c.2.2.1; have c3 := cell_later kB HP.out.c.2.2.2.1; have c4 := cell_later kB HP.out.c.2.2.2.2.1; have c5 := cell_later kB HP.out.c.2.2.2.2.2.1; have c6 := cell_later kB HP.out.c.2.2.2.2.2.2.1; have c7 := cell_later kB HP.out.c.2.2.2.2.2.2.2.1; have c8 := cell_later kB HP.out.c.2.2.2.2.2.2.2.2.1; have c9 := cell_later kB HP.out.c.2.2.2.2.2.2.2.2.2.1; have c10 := cell_later kB HP.out.c.2.2.2.2.2.2.2.2.2.2; have t0 := cell_later kB HT1.out; have u0 := cell_later kB HT3.out; have y1 := World.block_lt_of_cell? _ _ c0; have y2 := World.block_lt_of_cell? _ _ t0; have y3 := World.block_lt_of_cell? _ _ u0;go_simp; (try with_reducible rfl)
        (try simp only [cq])
        refine tkY 8 (some 111) ?_ ?_ ?_
        rotate_left
        · intro w _; go_simp; (try with_reducible rfl)
        (try simp only [cq])
        refine tkY 9 (some 112) ?_ ?_ ?_
        rotate_left
        · intro w _; go_simp; (try with_reducible rfl)
        (try simp only [cq])
        refine tkY 10 (some 113) ?_ ?_ ?_
        rotate_left
        · intro w hS0; (try dsimp only at hS0); have kB := hS0; have c0 := cell_later kB HP.out.c.1; have c1 := cell_later kB HP.out.c.2.1; have c2 := cell_later kB HP.out.c.2.2.1; have c3 := cell_later kB HP.out.c.2.2.2.1; have c4 := cell_later kB HP.out.c.2.2.2.2.1; have c5 := cell_later kB HP.out.c.2.2.2.2.2.1; have c6 := cell_later kB HP.out.c.2.2.2.2.2.2.1; have c7 := cell_later kB HP.out.c.2.2.2.2.2.2.2.1; have c8 := cell_later kB HP.out.c.2.2.2.2.2.2.2.2.1; have c9 := cell_later kB HP.out.c.2.2.2.2.2.2.2.2.2.1; have c10 := cell_later kB HP.out.c.2.2.2.2.2.2.2.2.2.2; have t0 := cell_later kB HT1.out; have u0 := cell_later kB HT3.out; have y1 := World.block_lt_of_cell? _ _ c0; have y2 := World.block_lt_of_cell? _ _ t0; have y3 := World.block_lt_of_cell? _ _ u0;go_simp; (try with_reducible rfl)
        (try simp only [cq])
        refine tkY 11 (some 114) ?_ ?_ ?_
        rotate_left
        · intro w hS0; (try dsimp only at hS0); have kB := hS0; have c0 := cell_later kB HP.out.c.1; have c1 := cell_later kB HP.out.c.2.1; have c2 := cell_later kB HP.out.c.2.2.1; have c3 := cell_later kB HP.out.c.2.2.2.1; have c4 := cell_later kB HP.out.c.2.2.2.2.1; have c5 := cell_later kB HP.out.c.2.2.2.2.2.1; have c6 := cell_later kB HP.out.c.2.2.2.2.2.2.1; have c7 := cell_later kB HP.out.c.2.2.2.2.2.2.2.1; have c8 := cell_later kB HP.out.c.2.2.2.2.2.2.2.2.1; have c9 := cell_later kB HP.out.c.2.2.2.2.2.2.2.2.2.1; have c10 := cell_later kB HP.out.c.2.2.2.2.2.2.2.2.2.2; have t0 := cell_later kB HT1.out; have u0 := cell_later kB HT3.out; have y1 := World.block_lt_of_cell? _ _ c0; have y2 := World.block_lt_of_cell? _ _ t0; have y3 := World.block_lt_of_cell? _ _ u0;go_simp; (try with_reducible rfl)
        (try simp only [cq])
        refine wpAnyH_ready (rs := [12]) (by kernel_rfl) (by simp) ?_
        refine arc1 (some 115) fun K hK => ?_
        go_simp
        (refine (HG1.out _ hH).mono ?_; rintro e w' ⟨rfl, hb⟩)
        refine hK.out _ _ ?_ ?_
        · (exact bwS hH (Nat.le_refl _) hb)
        (try clear hH); (try clear hb)
        intro hH
        clear hK K
        (try simp only [cq])
        refine tkY 13 (some 102) ?_ ?_ ?_
        rotate_left
        · intro w _; go_simp; (try with_reducible rfl)
        (try simp only [cq])
        refine tkY 14 (some 116) ?_ ?_ ?_
        rotate_left
        · intro w _; go_simp; (try with_reducible rfl)
        (try simp only [cq])
        refine tkY 15 (some 117) ?_ ?_ ?_
        rotate_left
        · intro w _; go_simp; (try with_reducible rfl)
        (try simp only [cq])
        refine tkY 16 (some 24) ?_ ?_ ?_
        rotate_left
        · intro w _; go_simp; (try with_reducible rfl)
        (try simp only [cq])
        refine tkY 17 (some 25) ?_ ?_ ?_
        rotate_left
        · intro w _; go_simp; (try with_reducible rfl)
        (try simp only [cq])
        refine wpAnyH_done (by kernel_rfl) ?_ _
        (try dsimp only [Act.put])
        (try simp only [cq])
        clear hB HG1
        have hB := hH
        clear hH
        go_upto_region 14 with fail
        refine wp_region_held_drew (S := (fun v => Below V.heap.size V v)) (by kernel_rfl) ?_ (fun hH => ?_)
        · (try dsimp only); (exact hB.drew)
        refine tkY 0 (some 119) ?_ ?_ ?_
        rotate_left
        · intro w _; go_simp; (try with_reducible rfl)
        (try simp only [cq])
        refine tkY 1 (some 120) ?_ ?_ ?_
        rotate_left
        · intro w _; go_simp; (try with_reducible rfl)
        (try simp only [cq])
        refine tkY 2 (some 121) ?_ ?_ ?_
        rotate_left
        · intro w hS0; (try dsimp only at hS0); have kB := hS0; have c0 := cell_later kB HP.out.c.1; have c1 := cell_later kB HP.out.c.2.1; have c2 := cell_later kB HP.out.c.2.2.1; have c3 := cell_later kB HP.out.c.2.2.2.1; have c4 := cell_later kB HP.out.c.2.2.2.2.1; have c5 := cell_later kB HP.out.c.2.2.2.2.2.1; have c6 := cell_later kB HP.out.c.2.2.2.2.2.2.1; have c7 := cell_later kB HP.out.c.2.2.2.2.2.2.2.1; have c8 := cell_later kB HP.out.c.2.2.2.2.2.2.2.2.1; have c9 := cell_later kB HP.out.c.2.2.2.2.2.2.2.2.2.1; have c10 := cell_later kB HP.out.c.2.2.2.2.2.2.2.2.2.2; have t0 := cell_later kB HT2.out; have u0 := cell_later kB HT3.out; have y1 := World.block_lt_of_cell? _ _ c0; have y2 := World.block_lt_of_cell? _ _ t0; have y3 := World.block_lt_of_cell? _ _ u0;go_simp; (try with_reducible rfl)
        (try simp only [cq])
        refine tkY 3 (some 122) ?_ ?_ ?_
        rotate_left
        · intro w hS0; (try dsimp only at hS0); have kB := hS0; have c0 := cell_later kB HP.out.c.1; have c1 := cell_later kB HP.out.c.2.1; have c2 := cell_later kB HP.out.c.2.2.1; have c3 := cell_later kB HP.out.c.2.2.2.1; have c4 := cell_later kB HP.out.c.2.2.2.2.1; have c5 := cell_later kB HP.out.c.2.2.2.2.2.1; have c6 := cell_later kB HP.out.c.2.2.2.2.2.2.1; have c7 := cell_later kB HP.out.c.2.2.2.2.2.2.2.1; have c8 := cell_later kB HP.out.c.2.2.2.2.2.2.2.2.1; have c9 := cell_later kB HP.out.c.2.2.2.2.2.2.2.2.2.1; have c10 := cell_later kB HP.out.c.2.2.2.2.2.2.2.2.2.2; have t0 := cell_later kB HT2.out; have u0 := cell_later kB HT3.out; have y1 := World.block_lt_of_cell? _ _ c0; have y2 := World.block_lt_of_cell? _ _ t0; have y3 := World.block_lt_of_cell? _ _ u0;go_simp; (try with_reducible rfl)
        (try simp only [cq])
        refine tkY 4 (some 123) ?_ ?_ ?_
        rotate_left
        · intro w _; go_simp; (try with_reducible rfl)
        (try simp only [cq])
        refine tkY 5 (some 124) ?_ ?_ ?_
        rotate_left
        · intro w _; go_simp; (try with_reducible rfl)
        (try simp only [cq])
        refine tkY 6 (some 125) ?_ ?_ ?_
        rotate_left
        · intro w hS0; (try dsimp only at hS0); have kB := hS0; have c0 := cell_later kB HP.out.c.1; have c1 := cell_later kB HP.out.c.2.1; have c2 := cell_later kB HP.out.c.2.2.1; have c3 := cell_later kB HP.out.c.2.2.2.1; have c4 := cell_later kB HP.out.c.2.2.2.2.1; have c5 := cell_later kB HP.out.c.2.2.2.2.2.1; have c6 := cell_later kB HP.out.c.2.2.2.2.2.2.1; have c7 := cell_later kB HP.out.c.2.2.2.2.2.2.2.1; have c8 := cell_later kB HP.out.c.2.2.2.2.2.2.2.2.1; have c9 := cell_later kB HP.out.c.2.2.2.2.2.2.2.2.2.1; have c10 := cell_later kB HP.out.c.2.2.2.2.2.2.2.2.2.2; have t0 := cell_later kB HT2.out; have u0 := cell_later kB HT3.out; have y1 := World.block_lt_of_cell? _ _ c0; have y2 := World.block_lt_of_cell? _ _ t0; have y3 := World.block_lt_of_cell? _ _ u0;go_simp; (try with_reducible rfl)
        (try simp only [cq])
        refine tkY 7 (some 126) ?_ ?_ ?_
        rotate_left
        · intro w hS0; (try dsimp only at hS0); have kB := hS0; have c0 := cell_later kB HP.out.c.1; have c1 := cell_later kB HP.out.c.2.1; have c2 := cell_later kB HP.out.c.2.2.1; have c3 := cell_later kB HP.out.c.2.2.2.1; have c4 := cell_later kB HP.out.c.2.2.2.2.1; have c5 := cell_later kB HP.out.c.2.2.2.2.2.1; have c6 := cell_later kB HP.out.c.2.2.2.2.2.2.1; have c7 := cell_later kB HP.out.c.2.2.2.2.2.2.2.1; have c8 := cell_later kB HP.out.c.2.2.2.2.2.2.2.2.1; have c9 := cell_later kB HP.out.c.2.2.2.2.2.2.2.2.2.1; have c10 := cell_later kB HP.out.c.2.2.2.2.2.2.2.2.2.2; have t0 := cell_later kB HT2.out; have u0 := cell_later kB HT3.out; have y1 := World.block_lt_of_cell? _ _ c0; have y2 := World.block_lt_of_cell? _ _ t0; have y3 := World.block_lt_of_cell? _ _ u0;go_simp; (try with_reducible rfl)
        (try simp only [cq])
        refine tkY 8 (some 127) ?_ ?_ ?_
        rotate_left
        · intro w _; go_simp; (try with_reducible rfl)
        (try simp only [cq])
        refine tkY 9 (some 128) ?_ ?_ ?_
        rotate_left
        · intro w _; go_simp; (try with_reducible rfl)
        (try simp only [cq])
        refine tkY 10 (some 129) ?_ ?_ ?_
        rotate_left
        · intro w hS0; (try dsimp only at hS0); have kB := hS0; have c0 := cell_later kB HP.out.c.1; have c1 := cell_later kB HP.out.c.2.1; have c2 := cell_later kB HP.out.c.2.2.1; have c3 := cell_later kB HP.out.c.2.2.2.1; have c4 := cell_later kB HP.out.c.2.2.2.2.1; have c5 := cell_later kB HP.out.c.2.2.2.2.2.1; have c6 := cell_later kB HP.out.c.2.2.2.2.2.2.1; have c7 := cell_later kB HP.out.c.2.2.2.2.2.2.2.1; have c8 := cell_later kB HP.out.c.2.2.2.2.2.2.2.2.1; have c9 := cell_later kB HP.out.c.2.2.2.2.2.2.2.2.2.1; have c10 := cell_later kB HP.out.c.2.2.2.2.2.2.2.2.2.2; have t0 := cell_later kB HT2.out; have u0 := cell_later kB HT3.out; have y1 := World.block_lt_of_cell? _ _ c0; have y2 := World.block_lt_of_cell? _ _ t0; have y3 := World.block_lt_of_cell? _ _ u0;go_simp; (try with_reducible rfl)
        (try simp only [cq])
        refine tkY 11 (some 130) ?_ ?_ ?_
        rotate_left
        · intro w hS0; (try dsimp only at hS0); have kB := hS0; have c0 := cell_later kB HP.out.c.1; have c1 := cell_later kB HP.out.c.2.1; have c2 := cell_later kB HP.out.c.2.2.1; have c3 := cell_later kB HP.out.c.2.2.2.1; have c4 := cell_later kB HP.out.c.2.2.2.2.1; have c5 := cell_later kB HP.out.c.2.2.2.2.2.1; have c6 := cell_later kB HP.out.c.2.2.2.2.2.2.1; have c7 := cell_later kB HP.out.c.2.2.2.2.2.2.2.1; have c8 := cell_later kB HP.out.c.2.2.2.2.2.2.2.2.1; have c9 := cell_later kB HP.out.c.2.2.2.2.2.2.2.2.2.1; have c10 := cell_later kB HP.out.c.2.2.2.2.2.2.2.2.2.2; have t0 := cell_later kB HT2.out; have u0 := cell_later kB HT3.out; have y1 := World.block_lt_of_cell? _ _ c0; have y2 := World.block_lt_of_cell? _ _ t0; have y3 := World.block_lt_of_cell? _ _ u0;go_simp; (try with_reducible rfl)
        (try simp only [cq])
        refine wpAnyH_ready (rs := [12]) (by kernel_rfl) (by simp) ?_
        refine arc1 (some 131) fun K hK => ?_
        go_simp
        (refine (HG2.out _ hH).mono ?_; rintro e w' ⟨rfl, hb⟩)
        refine hK.out _ _ ?_ ?_
        · (exact bwS hH (Nat.le_refl _) hb)
        (try clear hH); (try clear hb)
        intro hH
        clear hK K
        (try simp only [cq])
        refine tkY 13 (some 118) ?_ ?_ ?_
        rotate_left
        · intro w _; go_simp; (try with_reducible rfl)
        (try simp only [cq])
        refine tkY 14 (some 132) ?_ ?_ ?_
        rotate_left
        · intro w _; go_simp; (try with_reducible rfl)
        (try simp only [cq])
        refine tkY 15 (some 133) ?_ ?_ ?_
        rotate_left
        · intro w _; go_simp; (try with_reducible rfl)
        (try simp only [cq])
        refine tkY 16 (some 26) ?_ ?_ ?_
        rotate_left
        · intro w _; go_simp; (try with_reducible rfl)
        (try simp only [cq])
        refine tkY 17 (some 27) ?_ ?_ ?_
        rotate_left
        · intro w _; go_simp; (try with_reducible rfl)
        (try simp only [cq])
        refine wpAnyH_done (by kernel_rfl) ?_ _
        (try dsimp only [Act.put])
        (try simp only [cq])
        clear hB HG2
        have hB := hH
        clear hH
        go_upto_region 15 with fail
        refine wp_region_held_drew (S := (fun v => Below V.heap.size V v)) (by kernel_rfl) ?_ (fun hH => ?_)
        · (try dsimp only); (exact hB.drew)
        refine tkY 0 (some 135) ?_ ?_ ?_
        rotate_left
        · intro w _; go_simp; (try with_reducible rfl)
        (try simp only [cq])
        refine tkY 1 (some 136) ?_ ?_ ?_
        rotate_left
        · intro w _; go_simp; (try with_reducible rfl)
        (try simp only [cq])
        refine tkY 2 (some 137) ?_ ?_ ?_
        rotate_left
        · intro w hS0; (try dsimp only at hS0); have kB := hS0; have c0 := cell_later kB HP.out.c.1; have c1 := cell_later kB HP.out.c.2.1; have c2 := cell_later kB HP.out.c.2.2.1; have c3 := cell_later kB HP.out.c.2.2.2.1; have c4 := cell_later kB HP.out.c.2.2.2.2.1; have c5 := cell_later kB HP.out.c.2.2.2.2.2.1; have c6 := cell_later kB HP.out.c.2.2.2.2.2.2.1; have c7 := cell_later kB HP.out.c.2.2.2.2.2.2.2.1; have c8 := cell_later kB HP.out.c.2.2.2.2.2.2.2.2.1; have c9 := cell_later kB HP.out.c.2.2.2.2.2.2.2.2.2.1; have c10 := cell_later kB HP.out.c.2.2.2.2.2.2.2.2.2.2; have t0 := cell_later kB HT2.out; have u0 := cell_later kB HT3.out; have y1 := World.block_lt_of_cell? _ _ c0; have y2 := World.block_lt_of_cell? _ _ t0; have y3 := World.block_lt_of_cell? _ _ u0;go_simp; (try with_reducible rfl)
        (try simp only [cq])
        refine tkY 3 (some 138) ?_ ?_ ?_
        rotate_left
        · intro w hS0; (try dsimp only at hS0); have kB := hS0; have c0 := cell_later kB HP.out.c.1; have c1 := cell_later kB HP.out.c.2.1; have c2 := cell_later kB HP.out.c.2.2.1; have c3 := cell_later kB HP.out.c.2.2.2.1; have c4 := cell_later kB HP.out.c.2.2.2.2.1; have c5 := cell_later kB HP.out.c.2.2.2.2.2.1; have c6 := cell_later kB HP.out.c.2.2.2.2.2.2.1; have c7 := cell_later kB HP.out.c.2.2.2.2.2.2.2.1; have c8 := cell_later kB HP.out.c.2.2.2.2.2.2.2.2.1; have c9 := cell_later kB HP.out.c.2.2.2.2.2.2.2.2.2.1; have c10 := cell_later kB HP.out.c.2.2.2.2.2.2.2.2.2.2; have t0 := cell_later kB HT2.out; have u0 := cell_later kB HT3.out; have y1 := World.block_lt_of_cell? _ _ c0; have y2 := World.block_lt_of_cell? _ _ t0; have y3 := World.block_lt_of_cell? _ _ u0;go_simp; (try with_reducible rfl)
        (try simp only [cq])
        refine tkY 4 (some 139) ?_ ?_ ?_
        rotate_left
        · intro w _; go_simp; (try with_reducible rfl)
        (try simp only [cq])
        refine tkY 5 (some 140) ?_ ?_ ?_
        rotate_left
        · intro w _; go_simp; (try with_reducible rfl)
        (try simp only [cq])
        refine tkY 6 (some 141) ?_ ?_ ?_
        rotate_left
        · intro w hS0; (try dsimp only at hS0); have kB := hS0; have c0 := cell_later kB HP.out.c.1; have c1 := cell_later kB HP.out.c.2.1; have c2 := cell_later kB HP.out.c.2.2.1; have c3 := cell_later kB HP.out.c.2.2.2.1; have c4 := cell_later kB HP.out.c.2.2.2.2.1; have c5 := cell_later kB HP.out.c.2.2.2.2.2.1; have c6 := cell_later kB HP.out.c.2.2.2.2.2.2.1; have c7 := cell_later kB HP.out.c.2.2.2.2.2.2.2.1; have c8 := cell_later kB HP.out.c.2.2.2.2.2.2.2.2.1; have c9 := cell_later kB HP.out.c.2.2.2.2.2.2.2.2.2.1; have c10 := cell_later kB HP.out.c.2.2.2.2.2.2.2.2.2.2; have t0 := cell_later kB HT2.out; have u0 := cell_later kB HT3.out; have y1 := World.block_lt_of_cell? _ _ c0; have y2 := World.block_lt_of_cell? _ _ t0; have y3 := World.block_lt_of_cell? _ _ u0;go_simp; (try with_reducible rfl)
        (try simp only [cq])
        refine tkY 7 (some 142) ?_ ?_ ?_
        rotate_left
        · intro w hS0; (try dsimp only at hS0); have kB := hS0; have c0 := cell_later kB HP.out.c.1; have c1 := cell_later kB HP.out.c.2.1; have c2 := cell_later kB HP.out.c.2.2.1; have c3 := cell_later kB HP.out.c.2.2.2.1; have c4 := cell_later kB HP.out.c.2.2.2.2.1; have c5 := cell_later kB HP.out.c.2.2.2.2.2.1; have c6 := cell_later kB HP.out.c.2.2.2.2.2.2.1; have c7 := cell_later kB HP.out.c.2.2.2.2.2.2.2.1; have c8 := cell_later kB HP.out.c.2.2.2.2.2.2.2.2.1; have c9 := cell_later kB HP.out.c.2.2.2.2.2.2.2.2.2.1; have c10 := cell_later kB HP.out.c.2.2.2.2.2.2.2.2.2.2; have t0 := cell_later kB HT2.out; have u0 := cell_later kB HT3.out; have y1 := World.block_lt_of_cell? _ _ c0; have y2 := World.block_lt_of_cell? _ _ t0; have y3 := World.block_lt_of_cell? _ _ u0;go_simp; (try with_reducible rfl)
        (try simp only [cq])
        refine tkY 8 (some 143) ?_ ?_ ?_
        rotate_left
        · intro w _; go_simp; (try with_reducible rfl)
        (try simp only [cq])
        refine tkY 9 (some 144) ?_ ?_ ?_
        rotate_left
        · intro w _; go_simp; (try with_reducible rfl)
        (try simp only [cq])
        refine tkY 10 (some 145) ?_ ?_ ?_
        rotate_left
        · intro w hS0; (try dsimp only at hS0); have kB := hS0; have c0 := cell_later kB HP.out.c.1; have c1 := cell_later kB HP.out.c.2.1; have c2 := cell_later kB HP.out.c.2.2.1; have c3 := cell_later kB HP.out.c.2.2.2.1; have c4 := cell_later kB HP.out.c.2.2.2.2.1; have c5 := cell_later kB HP.out.c.2.2.2.2.2.1; have c6 := cell_later kB HP.out.c.2.2.2.2.2.2.1; have c7 := cell_later kB HP.out.c.2.2.2.2.2.2.2.1; have c8 := cell_later kB HP.out.c.2.2.2.2.2.2.2.2.1; have c9 := cell_later kB HP.out.c.2.2.2.2.2.2.2.2.2.1; have c10 := cell_later kB HP.out.c.2.2.2.2.2.2.2.2.2.2; have t0 := cell_later kB HT2.out; have u0 := cell_later kB HT3.out; have y1 := World.block_lt_of_cell? _ _ c0; have y2 := World.block_lt_of_cell? _ _ t0; have y3 := World.block_lt_of_cell? _ _ u0;go_simp; (try with_reducible rfl)
        (try simp only [cq])
        refine tkY 11 (some 146) ?_ ?_ ?_
        rotate_left
        · intro w hS0; (try dsimp only at hS0); have kB := hS0; have c0 := cell_later kB HP.out.c.1; have c1 := cell_later kB HP.out.c.2.1; have c2 := cell_later kB HP.out.c.2.2.1; have c3 := cell_later kB HP.out.c.2.2.2.1; have c4 := cell_later kB HP.out.c.2.2.2.2.1; have c5 := cell_later kB HP.out.c.2.2.2.2.2.1; have c6 := cell_later kB HP.out.c.2.2.2.2.2.2.1; have c7 := cell_later kB HP.out.c.2.2.2.2.2.2.2.1; have c8 := cell_later kB HP.out.c.2.2.2.2.2.2.2.2.1; have c9 := cell_later kB HP.out.c.2.2.2.2.2.2.2.2.2.1; have c10 := cell_later kB HP.out.c.2.2.2.2.2.2.2.2.2.2; have t0 := cell_later kB HT2.out; have u0 := cell_later kB HT3.out; have y1 := World.block_lt_of_cell? _ _ c0; have y2 := World.block_lt_of_cell? _ _ t0; have y3 := World.block_lt_of_cell? _ _ u0;go_simp; (try with_reducible rfl)
        (try simp only [cq])
        refine wpAnyH_ready (rs := [12]) (by kernel_rfl) (by simp) ?_
        refine arc1 (some 147) fun K hK => ?_
        go_simp
        (refine (HG3.out _ hH).mono ?_; rintro e w' ⟨rfl, hb⟩)
        refine hK.out _ _ ?_ ?_
        · (exact bwS hH (Nat.le_refl _) hb)
        (try clear hH); (try clear hb)
        intro hH
        clear hK K
        (try simp only [cq])
        refine tkY 13 (some 134) ?_ ?_ ?_
        rotate_left
        · intro w _; go_simp; (try with_reducible rfl)
        (try simp only [cq])
        refine tkY 14 (some 148) ?_ ?_ ?_
        rotate_left
        · intro w _; go_simp; (try with_reducible rfl)
        (try simp only [cq])
        refine tkY 15 (some 149) ?_ ?_ ?_
        rotate_left
        · intro w _; go_simp; (try with_reducible rfl)
        (try simp only [cq])
        refine tkY 16 (some 28) ?_ ?_ ?_
        rotate_left
        · intro w _; go_simp; (try with_reducible rfl)
        (try simp only [cq])
        refine tkY 17 (some 29) ?_ ?_ ?_
        rotate_left
        · intro w _; go_simp; (try with_reducible rfl)
        (try simp only [cq])
        refine wpAnyH_done (by kernel_rfl) ?_ _
        (try dsimp only [Act.put])
        (try simp only [cq])
        clear hB HG3
        have hB := hH
        clear hH
        go_upto_region 16 with fail
        refine wp_region_held_drew (S := (fun v => Below V.heap.size V v)) (by kernel_rfl) ?_ (fun hH => ?_)
        · (try dsimp only); (exact hB.drew)
        refine tkY 0 (some 151) ?_ ?_ ?_
        rotate_left
        · intro w _; go_simp; (try with_reducible rfl)
        (try simp only [cq])
        refine tkY 1 (some 152) ?_ ?_ ?_
        rotate_left
        · intro w _; go_simp; (try with_reducible rfl)
        (try simp only [cq])
        refine tkY 2 (some 153) ?_ ?_ ?_
        rotate_left
        · intro w hS0; (try dsimp only at hS0); have kB := hS0; have c0 := cell_later kB HP.out.c.1; have c1 := cell_later kB HP.out.c.2.1; have c2 := cell_later kB HP.out.c.2.2.1; have c3 := cell_later kB HP.out.c.2.2.2.1; have c4 := cell_later kB HP.out.c.2.2.2.2.1; have c5 := cell_later kB HP.out.c.2.2.2.2.2.1; have c6 := cell_later kB HP.out.c.2.2.2.2.2.2.1; have c7 := cell_later kB HP.out.c.2.2.2.2.2.2.2.1; have c8 := cell_later kB HP.out.c.2.2.2.2.2.2.2.2.1; have c9 := cell_later kB HP.out.c.2.2.2.2.2.2.2.2.2.1; have c10 := cell_later kB HP.out.c.2.2.2.2.2.2.2.2.2.2; have t0 := cell_later kB HT1.out; have u0 := cell_later kB HT2.out; have y1 := World.block_lt_of_cell? _ _ c0; have y2 := World.block_lt_of_cell? _ _ t0; have y3 := World.block_lt_of_cell? _ _ u0;go_simp; (try with_reducible rfl)
        (try simp only [cq])
        refine tkY 3 (some 154) ?_ ?_ ?_
        rotate_left
        · intro w hS0; (try dsimp only at hS0); have kB := hS0; have c0 := cell_later kB HP.out.c.1; have c1 := cell_later kB HP.out.c.2.1; have c2 := cell_later kB HP.out.c.2.2.1; have c3 := cell_later kB HP.out.c.2.2.2.1; have c4 := cell_later kB HP.out.c.2.2.2.2.1; have c5 := cell_later kB HP.out.c.2.2.2.2.2.1; have c6 := cell_later kB HP.out.c.2.2.2.2.2.2.1; have c7 := cell_later kB HP.out.c.2.2.2.2.2.2.2.1; have c8 := cell_later kB HP.out.c.2.2.2.2.2.2.2.2.1; have c9 := cell_later kB HP.out.c.2.2.2.2.2.2.2.2.2.1; have c10 := cell_later kB HP.out.c.2.2.2.2.2.2.2.2.2.2; have t0 := cell_later kB HT1.out; have u0 := cell_later kB HT2.out; have y1 := World.block_lt_of_cell? _ _ c0; have y2 := World.block_lt_of_cell? _ _ t0; have y3 := World.block_lt_of_cell? _ _ u0;go_simp; (try with_reducible rfl)
        (try simp only [cq])
        refine tkY 4 (some 155) ?_ ?_ ?_
        rotate_left
        · intro w _; go_simp; (try with_reducible rfl)
        (try simp only [cq])
        refine tkY 5 (some 156) ?_ ?_ ?_
        rotate_left
        · intro w _; go_simp; (try with_reducible rfl)
        (try simp only [cq])
        refine tkY 6 (some 157) ?_ ?_ ?_
        rotate_left
        · intro w hS0; (try dsimp only at hS0); have kB := hS0; have c0 := cell_later kB HP.out.c.1; have c1 := cell_later kB HP.out.c.2.1; have c2 := cell_later kB HP.out.c.2.2.1; have c3 := cell_later kB HP.out.c.2.2.2.1; have c4 := cell_later kB HP.out.c.2.2.2.2.1; have c5 := cell_later kB HP.out.c.2.2.2.2.2.1; have c6 := cell_later kB HP.out.c.2.2.2.2.2.2.1; have c7 := cell_later kB HP.out.c.2.2.2.2.2.2.2.1; have c8 := cell_later kB HP.out.c.2.2.2.2.2.2.2.2.1; have c9 := cell_later kB HP.out.c.2.2.2.2.2.2.2.2.2.1; have c10 := cell_later kB HP.out.c.2.2.2.2.2.2.2.2.2.2; have t0 := cell_later kB HT1.out; have u0 := cell_later kB HT2.out; have y1 := World.block_lt_of_cell? _ _ c0; have y2 := World.block_lt_of_cell? _ _ t0; have y3 := World.block_lt_of_cell? _ _ u0;go_simp; (try with_reducible rfl)
        (try simp only [cq])
        refine tkY 7 (some 158) ?_ ?_ ?_
        rotate_left
        · intro w hS0; (try dsimp only at hS0); have kB := hS0; have c0 := cell_later kB HP.out.c.1; have c1 := cell_later kB HP.out.c.2.1; have c2 := cell_later kB HP.out.c.2.2.1; have c3 := cell_later kB HP.out.c.2.2.2.1; have c4 := cell_later kB HP.out.c.2.2.2.2.1; have c5 := cell_later kB HP.out.c.2.2.2.2.2.1; have c6 := cell_later kB HP.out.c.2.2.2.2.2.2.1; have c7 := cell_later kB HP.out.c.2.2.2.2.2.2.2.1; have c8 := cell_later kB HP.out.c.2.2.2.2.2.2.2.2.1; have c9 := cell_later kB HP.out.c.2.2.2.2.2.2.2.2.2.1; have c10 := cell_later kB HP.out.c.2.2.2.2.2.2.2.2.2.2; have t0 := cell_later kB HT1.out; have u0 := cell_later kB HT2.out; have y1 := World.block_lt_of_cell? _ _ c0; have y2 := World.block_lt_of_cell? _ _ t0; have y3 := World.block_lt_of_cell? _ _ u0;go_simp; (try with_reducible rfl)
        (try simp only [cq])
        refine tkY 8 (some 159) ?_ ?_ ?_
        rotate_left
        · intro w _; go_simp; (try with_reducible rfl)
        (try simp only [cq])
        refine tkY 9 (some 160) ?_ ?_ ?_
        rotate_left
        · intro w _; go_simp; (try with_reducible rfl)
        (try simp only [cq])
        refine tkY 10 (some 161) ?_ ?_ ?_
        rotate_left
        · intro w hS0; (try dsimp only at hS0); have kB := hS0; have c0 := cell_later kB HP.out.c.1; have c1 := cell_later kB HP.out.c.2.1; have c2 := cell_later kB HP.out.c.2.2.1; have c3 := cell_later kB HP.out.c.2.2.2.1; have c4 := cell_later kB HP.out.c.2.2.2.2.1; have c5 := cell_later kB HP.out.c.2.2.2.2.2.1; have c6 := cell_later kB HP.out.c.2.2.2.2.2.2.1; have c7 := cell_later kB HP.out.c.2.2.2.2.2.2.2.1; have c8 := cell_later kB HP.out.c.2.2.2.2.2.2.2.2.1; have c9 := cell_later kB HP.out.c.2.2.2.2.2.2.2.2.2.1; have c10 := cell_later kB HP.out.c.2.2.2.2.2.2.2.2.2.2; have t0 := cell_later kB HT1.out; have u0 := cell_later kB HT2.out; have y1 := World.block_lt_of_cell? _ _ c0; have y2 := World.block_lt_of_cell? _ _ t0; have y3 := World.block_lt_of_cell? _ _ u0;go_simp; (try with_reducible rfl)
        (try simp only [cq])
        refine tkY 11 (some 162) ?_ ?_ ?_
        rotate_left
        · intro w hS0; (try dsimp only at hS0); have kB := hS0; have c0 := cell_later kB HP.out.c.1; have c1 := cell_later kB HP.out.c.2.1; have c2 := cell_later kB HP.out.c.2.2.1; have c3 := cell_later kB HP.out.c.2.2.2.1; have c4 := cell_later kB HP.out.c.2.2.2.2.1; have c5 := cell_later kB HP.out.c.2.2.2.2.2.1; have c6 := cell_later kB HP.out.c.2.2.2.2.2.2.1; have c7 := cell_later kB HP.out.c.2.2.2.2.2.2.2.1; have c8 := cell_later kB HP.out.c.2.2.2.2.2.2.2.2.1; have c9 := cell_later kB HP.out.c.2.2.2.2.2.2.2.2.2.1; have c10 := cell_later kB HP.out.c.2.2.2.2.2.2.2.2.2.2; have t0 := cell_later kB HT1.out; have u0 := cell_later kB HT2.out; have y1 := World.block_lt_of_cell? _ _ c0; have y2 := World.block_lt_of_cell? _ _ t0; have y3 := World.block_lt_of_cell? _ _ u0;go_simp; (try with_reducible rfl)
        (try simp only [cq])
        refine wpAnyH_ready (rs := [12]) (by kernel_rfl) (by simp) ?_
        refine arc1 (some 163) fun K hK => ?_
        go_simp
        (refine (HG4.out _ hH).mono ?_; rintro e w' ⟨rfl, hb⟩)
        refine hK.out _ _ ?_ ?_
        · (exact bwS hH (Nat.le_refl _) hb)
        (try clear hH); (try clear hb)
        intro hH
        clear hK K
        (try simp only [cq])
        refine tkY 13 (some 150) ?_ ?_ ?_
        rotate_left
        · intro w _; go_simp; (try with_reducible rfl)
        (try simp only [cq])
        refine tkY 14 (some 164) ?_ ?_ ?_
        rotate_left
        · intro w _; go_simp; (try with_reducible rfl)
        (try simp only [cq])
        refine tkY 15 (some 165) ?_ ?_ ?_
        rotate_left
        · intro w _; go_simp; (try with_reducible rfl)
        (try simp only [cq])
        refine tkY 16 (some 30) ?_ ?_ ?_
        rotate_left
        · intro w _; go_simp; (try with_reducible rfl)
        (try simp only [cq])
        refine tkY 17 (some 31) ?_ ?_ ?_
        rotate_left
        · intro w _; go_simp; (try with_reducible rfl)
        (try simp only [cq])
        refine wpAnyH_done (by kernel_rfl) ?_ _
        (try dsimp only [Act.put])
        (try simp only [cq])
        clear hB HG4
        have hB := hH
        clear hH
        go_upto_region 17 with fail
        refine wp_region_held_drew (S := (fun v => Below V.heap.size V v)) (by kernel_rfl) ?_ (fun hH => ?_)
        · (try dsimp only); (exact hB.drew)
        refine tkY 0 (some 167) ?_ ?_ ?_
        rotate_left
        · intro w _; go_simp; (try with_reducible rfl)
        (try simp only [cq])
        refine tkY 1 (some 168) ?_ ?_ ?_
        rotate_left
        · intro w _; go_simp; (try with_reducible rfl)
        (try simp only [cq])
        refine tkY 2 (some 169) ?_ ?_ ?_
        rotate_left
        · intro w hS0; (try dsimp only at hS0); have kB := hS0; have c0 := cell_later kB HP.out.c.1; have c1 := cell_later kB HP.out.c.2.1; have c2 := cell_later kB HP.out.c.2.2.1; have c3 := cell_later kB HP.out.c.2.2.2.1; have c4 := cell_later kB HP.out.c.2.2.2.2.1; have c5 := cell_later kB HP.out.c.2.2.2.2.2.1; have c6 := cell_later kB HP.out.c.2.2.2.2.2.2.1; have c7 := cell_later kB HP.out.c.2.2.2.2.2.2.2.1; have c8 := cell_later kB HP.out.c.2.2.2.2.2.2.2.2.1; have c9 := cell_later kB HP.out.c.2.2.2.2.2.2.2.2.2.1; have c10 := cell_later kB HP.out.c.2.2.2.2.2.2.2.2.2.2; have t0 := cell_later kB HT1.out; have u0 := cell_later kB HT2.out; have y1 := World.block_lt_of_cell? _ _ c0; have y2 := World.block_lt_of_cell? _ _ t0; have y3 := World.block_lt_of_cell? _ _ u0;go_simp; (try with_reducible rfl)
        (try simp only [cq])
        refine tkY 3 (some 170) ?_ ?_ ?_
        rotate_left
        · intro w hS0; (try dsimp only at hS0); have kB := hS0; have c0 := cell_later kB HP.out.c.1; have c1 := cell_later kB HP.out.c.2.1; have c2 := cell_later kB HP.out.c.2.2.1; have c3 := cell_later kB HP.out.c.2.2.2.1; have c4 := cell_later kB HP.out.c.2.2.2.2.1; have c5 := cell_later kB HP.out.c.2.2.2.2.2.1; have c6 := cell_later kB HP.out.c.2.2.2.2.2.2.1; have c7 := cell_later kB HP.out.c.2.2.2.2.2.2.2.1; have c8 := cell_later kB HP.out.c.2.2.2.2.2.2.2.2.1; have c9 := cell_later kB HP.out.c.2.2.2.2.2.2.2.2.2.1; have c10 := cell_later kB HP.out.c.2.2.2.2.2.2.2.2.2.2; have t0 := cell_later kB HT1.out; have u0 := cell_later kB HT2.out; have y1 := World.block_lt_of_cell? _ _ c0; have y2 := World.block_lt_of_cell? _ _ t0; have y3 := World.block_lt_of_cell? _ _ u0;go_simp; (try with_reducible rfl)
        (try simp only [cq])
        refine tkY 4 (some 171) ?_ ?_ ?_
        rotate_left
        · intro w _; go_simp; (try with_reducible rfl)
        (try simp only [cq])
        refine tkY 5 (some 172) ?_ ?_ ?_
        rotate_left
        · intro w _; go_simp; (try with_reducible rfl)
        (try simp only [cq])
        refine tkY 6 (some 173) ?_ ?_ ?_
        rotate_left
        · intro w hS0; (try dsimp only at hS0); have kB := hS0; have c0 := cell_later kB HP.out.c.1; have c1 := cell_later kB HP.out.c.2.1; have c2 := cell_later kB HP.out.c.2.2.1; have c3 := cell_later kB HP.out.c.2.2.2.1; have c4 := cell_later kB HP.out.c.2.2.2.2.1; have c5 := cell_later kB HP.out.c.2.2.2.2.2.1; have c6 := cell_later kB HP.out.c.2.2.2.2.2.2.1; have c7 := cell_later kB HP.out.c.2.2.2.2.2.2.2.1; have c8 := cell_later kB HP.out.c.2.2.2.2.2.2.2.2.1; have c9 := cell_later kB HP.out.c.2.2.2.2.2.2.2.2.2.1; have c10 := cell_later kB HP.out.c.2.2.2.2.2.2.2.2.2.2; have t0 := cell_later kB HT1.out; have u0 := cell_later kB HT2.out; have y1 := World.block_lt_of_cell? _ _ c0; have y2 := World.block_lt_of_cell? _ _ t0; have y3 := World.block_lt_of_cell? _ _ u0;go_simp; (try with_reducible rfl)
        (try simp only [cq])
        refine tkY 7 (some 174) ?_ ?_ ?_
        rotate_left
        · intro w hS0; (try dsimp only at hS0); have kB := hS0; have c0 := cell_later kB HP.out.c.1; have c1 := cell_later kB HP.out.c.2.1; have c2 := cell_later kB HP.out.c.2.2.1; have c3 := cell_later kB HP.out.c.2.2.2.1; have c4 := cell_later kB HP.out.c.2.2.2.2.1; have c5 := cell_later kB HP.out.c.2.2.2.2.2.1; have c6 := cell_later kB HP.out.c.2.2.2.2.2.2.1; have c7 := cell_later kB HP.out.c.2.2.2.2.2.2.2.1; have c8 := cell_later kB HP.out.c.2.2.2.2.2.2.2.2.1; have c9 := cell_later kB HP.out.c.2.2.2.2.2.2.2.2.2.1; have c10 := cell_later kB HP.out.c.2.2.2.2.2.2.2.2.2.2; have t0 := cell_later kB HT1.out; have u0 := cell_later kB HT2.out; have y1 := World.block_lt_of_cell? _ _ c0; have y2 := World.block_lt_of_cell? _ _ t0; have y3 := World.block_lt_of_cell? _ _ u0;go_simp; (try with_reducible rfl)
        (try simp only [cq])
        refine tkY 8 (some 175) ?_ ?_ ?_
        rotate_left
        · intro w _; go_simp; (try with_reducible rfl)
        (try simp only [cq])
        refine tkY 9 (some 176) ?_ ?_ ?_
        rotate_left
        · intro w _; go_simp; (try with_reducible rfl)
        (try simp only [cq])
        refine tkY 10 (some 177) ?_ ?_ ?_
        rotate_left
        · intro w hS0; (try dsimp only at hS0); have kB := hS0; have c0 := cell_later kB HP.out.c.1; have c1 := cell_later kB HP.out.c.2.1; have c2 := cell_later kB HP.out.c.2.2.1; have c3 := cell_later kB HP.out.c.2.2.2.1; have c4 := cell_later kB HP.out.c.2.2.2.2.1; have c5 := cell_later kB HP.out.c.2.2.2.2.2.1; have c6 := cell_later kB HP.out.c.2.2.2.2.2.2.1; have c7 := cell_later kB HP.out.c.2.2.2.2.2.2.2.1; have c8 := cell_later kB HP.out.c.2.2.2.2.2.2.2.2.1; have c9 := cell_later kB HP.out.c.2.2.2.2.2.2.2.2.2.1; have c10 := cell_later kB HP.out.c.2.2.2.2.2.2.2.2.2.2; have t0 := cell_later kB HT1.out; have u0 := cell_later kB HT2.out; have y1 := World.block_lt_of_cell? _ _ c0; have y2 := World.block_lt_of_cell? _ _ t0; have y3 := World.block_lt_of_cell? _ _ u0;go_simp; (try with_reducible rfl)
        (try simp only [cq])
        refine tkY 11 (some 178) ?_ ?_ ?_
        rotate_left
        · intro w hS0; (try dsimp only at hS0); have kB := hS0; have c0 := cell_later kB HP.out.c.1; have c1 := cell_later kB HP.out.c.2.1; have c2 := cell_later kB HP.out.c.2.2.1; have c3 := cell_later kB HP.out.c.2.2.2.1; have c4 := cell_later kB HP.out.c.2.2.2.2.1; have c5 := cell_later kB HP.out.c.2.2.2.2.2.1; have c6 := cell_later kB HP.out.c.2.2.2.2.2.2.1; have c7 := cell_later kB HP.out.c.2.2.2.2.2.2.2.1; have c8 := cell_later kB HP.out.c.2.2.2.2.2.2.2.2.1; have c9 := cell_later kB HP.out.c.2.2.2.2.2.2.2.2.2.1; have c10 := cell_later kB HP.out.c.2.2.2.2.2.2.2.2.2.2; have t0 := cell_later kB HT1.out; have u0 := cell_later kB HT2.out; have y1 := World.block_lt_of_cell? _ _ c0; have y2 := World.block_lt_of_cell? _ _ t0; have y3 := World.block_lt_of_cell? _ _ u0;go_simp; (try with_reducible rfl)
        (try simp only [cq])
        refine wpAnyH_ready (rs := [12]) (by kernel_rfl) (by simp) ?_
        refine arc1 (some 179) fun K hK => ?_
        go_simp
        (refine (HG5.out _ hH).mono ?_; rintro e w' ⟨rfl, hb⟩)
        refine hK.out _ _ ?_ ?_
        · (exact bwS hH (Nat.le_refl _) hb)
        (try clear hH); (try clear hb)
        intro hH
        clear hK K
        (try simp only [cq])
        refine tkY 13 (some 166) ?_ ?_ ?_
        rotate_left
        · intro w _; go_simp; (try with_reducible rfl)
        (try simp only [cq])
        refine tkY 14 (some 180) ?_ ?_ ?_
        rotate_left
        · intro w _; go_simp; (try with_reducible rfl)
        (try simp only [cq])
        refine tkY 15 (some 181) ?_ ?_ ?_
        rotate_left
        · intro w _; go_simp; (try with_reducible rfl)
        (try simp only [cq])
        refine tkY 16 (some 32) ?_ ?_ ?_
        rotate_left
        · intro w _; go_simp; (try with_reducible rfl)
        (try simp only [cq])
        refine tkY 17 (some 33) ?_ ?_ ?_
        rotate_left
        · intro w _; go_simp; (try with_reducible rfl)
        (try simp only [cq])
        refine wpAnyH_done (by kernel_rfl) ?_ _
        (try dsimp only [Act.put])
        (try simp only [cq])
        clear hB HG5
        have hB := hH
        clear hH
        have g0 : (f4 != f4) = false := by simp
        have g1 : (r1 != r1) = false := by simp
        have g2 : (f1 != f1) = false := by simp
        have g3 : (r2 != r2) = false := by simp
        have g4 : (f2 != f2) = false := by simp
        have g5 : (r3 != r3) = false := by simp
        have g6 : (f3 != f3) = false := by simp
        go_upto_region 18 with fail
        refine wp_region_held_drew (S := (fun v => Below V.heap.size V v)) (by kernel_rfl) ?_ (fun hH => ?_)
        · (try dsimp only); (exact hB.drew)
        refine tkY 0 (some 182) ?_ ?_ ?_
        rotate_left
        · intro w _; go_simp; (try with_reducible rfl)
        (try simp only [cq])
        refine tkY 1 (some 183) ?_ ?_ ?_
        rotate_left
        · intro w _; go_simp; (try with_reducible rfl)
        (try simp only [cq])
        refine tkY 2 (some 184) ?_ ?_ ?_
        rotate_left
        · intro w hS0; (try dsimp only at hS0); have kB := hS0; have c0 := cell_later kB HP.out.c.1; have c1 := cell_later kB HP.out.c.2.1; have c2 := cell_later kB HP.out.c.2.2.1; have c3 := cell_later kB HP.out.c.2.2.2.1; have c4 := cell_later kB HP.out.c.2.2.2.2.1; have c5 := cell_later kB HP.out.c.2.2.2.2.2.1; have c6 := cell_later kB HP.out.c.2.2.2.2.2.2.1; have c7 := cell_later kB HP.out.c.2.2.2.2.2.2.2.1; have c8 := cell_later kB HP.out.c.2.2.2.2.2.2.2.2.1; have c9 := cell_later kB HP.out.c.2.2.2.2.2.2.2.2.2.1; have c10 := cell_later kB HP.out.c.2.2.2.2.2.2.2.2.2.2; have y1 := World.block_lt_of_cell? _ _ c0;go_simp; (try with_reducible rfl)
        (try simp only [cq])
        refine tkY 3 (some 185) ?_ ?_ ?_
        rotate_left
        · intro w hS0; (try dsimp only at hS0); have kB := hS0; have c0 := cell_later kB HP.out.c.1; have c1 := cell_later kB HP.out.c.2.1; have c2 := cell_later kB HP.out.c.2.2.1; have c3 := cell_later kB HP.out.c.2.2.2.1; have c4 := cell_later kB HP.out.c.2.2.2.2.1; have c5 := cell_later kB HP.out.c.2.2.2.2.2.1; have c6 := cell_later kB HP.out.c.2.2.2.2.2.2.1; have c7 := cell_later kB HP.out.c.2.2.2.2.2.2.2.1; have c8 := cell_later kB HP.out.c.2.2.2.2.2.2.2.2.1; have c9 := cell_later kB HP.out.c.2.2.2.2.2.2.2.2.2.1; have c10 := cell_later kB HP.out.c.2.2.2.2.2.2.2.2.2.2; have y1 := World.block_lt_of_cell? _ _ c0;go_simp; (try with_reducible rfl)
        (try simp only [cq])
        refine tkY 5 (some 187) ?_ ?_ ?_
        rotate_left
        · intro w _; go_simp; (try with_reducible rfl)
        (try simp only [cq])
        refine tkY 6 (some 188) ?_ ?_ ?_
        rotate_left
        · intro w _; go_simp; (try with_reducible rfl)
        (try simp only [cq])
        refine tkY 7 (some 189) ?_ ?_ ?_
        rotate_left
        · intro w hS0; (try dsimp only at hS0); have kB := hS0; have c0 := cell_later kB HP.out.c.1; have c1 := cell_later kB HP.out.c.2.1; have c2 := cell_later kB HP.out.c.2.2.1; have c3 := cell_later kB HP.out.c.2.2.2.1; have c4 := cell_later kB HP.out.c.2.2.2.2.1; have c5 := cell_later kB HP.out.c.2.2.2.2.2.1; have c6 := cell_later kB HP.out.c.2.2.2.2.2.2.1; have c7 := cell_later kB HP.out.c.2.2.2.2.2.2.2.1; have c8 := cell_later kB HP.out.c.2.2.2.2.2.2.2.2.1; have c9 := cell_later kB HP.out.c.2.2.2.2.2.2.2.2.2.1; have c10 := cell_later kB HP.out.c.2.2.2.2.2.2.2.2.2.2; have y1 := World.block_lt_of_cell? _ _ c0;go_simp; (try with_reducible rfl)
        (try simp only [cq])
        refine tkY 8 (some 190) ?_ ?_ ?_
        rotate_left
        · intro w hS0; (try dsimp only at hS0); have kB := hS0; have c0 := cell_later kB HP.out.c.1; have c1 := cell_later kB HP.out.c.2.1; have c2 := cell_later kB HP.out.c.2.2.1; have c3 := cell_later kB HP.out.c.2.2.2.1; have c4 := cell_later kB HP.out.c.2.2.2.2.1; have c5 := cell_later kB HP.out.c.2.2.2.2.2.1; have c6 := cell_later kB HP.out.c.2.2.2.2.2.2.1; have c7 := cell_later kB HP.out.c.2.2.2.2.2.2.2.1; have c8 := cell_later kB HP.out.c.2.2.2.2.2.2.2.2.1; have c9 := cell_later kB HP.out.c.2.2.2.2.2.2.2.2.2.1; have c10 := cell_later kB HP.out.c.2.2.2.2.2.2.2.2.2.2; have y1 := World.block_lt_of_cell? _ _ c0;go_simp; (try with_reducible rfl)
        (try simp only [cq])
        refine wpAnyH_ready (rs := [4]) (by kernel_rfl) (by simp) ?_
        refine arc1 (some 186) fun K hK => ?_
        go_simp
        (refine (HG6.out _ hH).mono ?_; rintro e w' ⟨rfl, hb⟩)
        refine hK.out _ _ ?_ ?_
        · (exact bwS hH (Nat.le_refl _) hb)
        (try clear hH); (try clear hb)
        intro hH
        clear hK K
        (try simp only [cq])
        refine wpAnyH_ready (rs := [9]) (by kernel_rfl) (by simp) ?_
        refine arc1 (some 191) fun K hK => ?_
        go_simp
        (refine (HG7.out _ hH).mono ?_; rintro e w' ⟨rfl, hb⟩)
        refine hK.out _ _ ?_ ?_
        · (exact bwS hH (Nat.le_refl _) hb)
        (try clear hH); (try clear hb)
        intro hH
        clear hK K
        (try simp only [cq])
        refine tkY 10 (some 192) ?_ ?_ ?_
        rotate_left
        · intro w _; go_simp; (try with_reducible rfl)
        (try simp only [cq])
        refine tkY 11 (some 193) ?_ ?_ ?_
        rotate_left
        · intro w _; go_simp; (try with_reducible rfl)
        (try simp only [cq])
        refine tkY 12 (some 194) ?_ ?_ ?_
        rotate_left
        · intro w _; go_simp; (try with_reducible rfl)
        (try simp only [cq])
        refine tkY 13 (some 195) ?_ ?_ ?_
        rotate_left
        · intro w _; go_simp; (try with_reducible rfl)
        (try simp only [cq])
        refine tkY 14 (some 196) ?_ ?_ ?_
        rotate_left
        · intro w _; go_simp; (try with_reducible rfl)
        (try simp only [cq])
        refine tkY 15 (some 197) ?_ ?_ ?_
        rotate_left
        · intro w _; go_simp; (try with_reducible rfl)
        (try simp only [cq])
        refine tkY 16 (some 198) ?_ ?_ ?_
        rotate_left
        · intro w _; go_simp; (try with_reducible rfl)
        (try simp only [cq])
        refine tkY 17 (some 199) ?_ ?_ ?_
        rotate_left
        · intro w _; go_simp; (try with_reducible rfl)
        (try simp only [cq])
        refine tkY 18 (some 200) ?_ ?_ ?_
        rotate_left
        · intro w _; go_simp; (try with_reducible rfl)
        (try simp only [cq])
        refine tkY 19 (some 201) ?_ ?_ ?_
        rotate_left
        · intro w _; go_simp; (try with_reducible rfl)
        (try simp only [cq])
        refine tkY 20 (some 202) ?_ ?_ ?_
        rotate_left
        · intro w _; go_simp; (try with_reducible rfl)
        (try simp only [cq])
        refine tkY 21 (some 203) ?_ ?_ ?_
        rotate_left
        · intro w _; go_simp; (try with_reducible rfl)
        (try simp only [cq])
        refine tkY 22 (some 204) ?_ ?_ ?_
        rotate_left
        · intro w _; go_simp; (try with_reducible rfl)
        (try simp only [cq])
        refine tkY 23 (some 205) ?_ ?_ ?_
        rotate_left
        · intro w _; go_simp; (try with_reducible rfl)
        (try simp only [cq])
        refine tkY 24 (some 206) ?_ ?_ ?_
        rotate_left
        · intro w _; go_simp; (try with_reducible rfl)
        (try simp only [cq])
        refine tkY 25 (some 207) ?_ ?_ ?_
        rotate_left
        · intro w _; go_simp; (try with_reducible rfl)
        (try simp only [cq])
        refine tkY 26 (some 208) ?_ ?_ ?_
        rotate_left
        · intro w _; go_simp; (try with_reducible rfl)
        (try simp only [cq])
        refine tkY 27 (some 209) ?_ ?_ ?_
        rotate_left
        · intro w _; go_simp; (try with_reducible rfl)
        (try simp only [cq])
        refine tkY 28 (some 210) ?_ ?_ ?_
        rotate_left
        · intro w _; go_simp; (try with_reducible rfl)
        (try simp only [cq])
        refine tkY 29 (some 211) ?_ ?_ ?_
        rotate_left
        · intro w _; go_simp; (try with_reducible rfl)
        (try simp only [cq])
        refine tkY 30 (some 212) ?_ ?_ ?_
        rotate_left
        · intro w _; go_simp; (try with_reducible rfl)
        (try simp only [cq])
        refine tkY 31 (some 213) ?_ ?_ ?_
        rotate_left
        · intro w _; go_simp; (try with_reducible rfl)
        (try simp only [cq])
        refine tkY 32 (some 214) ?_ ?_ ?_
        rotate_left
        · intro w _; go_simp; (try with_reducible rfl)
        (try simp only [cq])
        refine tkY 33 (some 215) ?_ ?_ ?_
        rotate_left
        · intro w _; go_simp; (try with_reducible rfl)
        (try simp only [cq])
        refine tkY 34 (some 216) ?_ ?_ ?_
        rotate_left
        · intro w _; go_simp; (try with_reducible rfl)
        (try simp only [cq])
        refine tkY 35 (some 217) ?_ ?_ ?_
        rotate_left
        · intro w _; go_simp; (try with_reducible rfl)
        (try simp only [cq])
        refine tkY 36 (some 218) ?_ ?_ ?_
        rotate_left
        · intro w _; go_simp; (try with_reducible rfl)
        (try simp only [cq])
        refine tkY 37 (some 219) ?_ ?_ ?_
        rotate_left
        · intro w _; go_simp; (try with_reducible rfl)
        (try simp only [cq])
        refine tkY 38 (some 220) ?_ ?_ ?_
        rotate_left
        · intro w _; go_simp; (try with_reducible rfl)
        (try simp only [cq])
        refine tkY 39 (some 221) ?_ ?_ ?_
        rotate_left
        · intro w _; go_simp; (try with_reducible rfl)
        (try simp only [cq])
        refine tkY 40 (some 222) ?_ ?_ ?_
        rotate_left
        · intro w _; go_simp; (try with_reducible rfl)
        (try simp only [cq])
        refine wpAnyH_done (by kernel_rfl) ?_ _
        (try dsimp only [Act.put])
        (try simp only [cq])
        clear hB HG6 HG7
        have hB := hH
        clear hH
        go_wp2
        go_roundw
        case rel => exact ⟨k + 1, by omega, by go_num, hB⟩
        case measure => simp [intOf]; omega
      · have jB := bwS HB.out (by have := HB.out.size; omega) hB
        clear hB HRd
        go_wp2_with fail
        refine (awake_any _).mono ?_
        rintro e w9 ⟨rfl, hb⟩
        replace jB := bwS jB (Nat.le_refl _) hb
        go_wp2
        go_ret
        exact ⟨rfl, jB⟩
end Go.Proofs.Ytfakmggabicdjaa

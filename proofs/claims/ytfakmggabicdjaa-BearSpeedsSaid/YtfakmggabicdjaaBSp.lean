/-
  BearSpeeds says yes.
-/
import Derived.Test.YtfakmggabicdjaaTail
import Derived.Test.YtfakmggabicdjaaSpds
import Derived.Test.YtfakmggabicdjaaRWa
import Derived.Test.YtfakmggabicdjaaShr3
import Derived.Test.YtfakmggabicdjaaRowOf
import Derived.Test.YtfakmggabicdjaaRd
import Derived.Test.YtfakmggabicdjaaAwk2
set_option linter.unusedVariables false
set_option linter.unusedSimpArgs false
namespace Go.Proofs.Ytfakmggabicdjaa
open Go.RowKit

def four4 (x0 x1 x2 x3 : Int) (i : Nat) : Int := match i with | 0 => x0 | 1 => x1 | 2 => x2 | _ => x3
theorem four_cells {w : World} {b : Nat} {x0 x1 x2 x3 : Int} {t : TypeId} (h : Blk w b #[.int .i64 x0, .int .i64 x1, .int .i64 x2, .int .i64 x3] t) : ∀ i, i < 4 → w.cell? ⟨b, 0 + i, none⟩ = some (.int .i64 (four4 x0 x1 x2 x3 i)) := fun i hi => by
  obtain ⟨c0, c1, c2, c3⟩ := h.c4
  obtain rfl | rfl | rfl | rfl : i = 0 ∨ i = 1 ∨ i = 2 ∨ i = 3 := by omega
  · exact c0
  · exact c1
  · exact c2
  · exact c3

set_option maxRecDepth 100000 in
set_option maxHeartbeats 16000000 in
theorem bspeeds_any (p : Pl) (vS vC : Value) (a b sh v : Int) (a0 : Option Addr) (len cap : Nat) (w : World)
    (hS : TabAt w vS p.S) (hC : TabAt w vC p.C) (hn : NumsAt w a0 len) :
    Calls Try.prog 7 #[.agg #[.int .i64 p.s0, .int .i64 p.s1, vS, vC, .int .i64 p.ne, .int .i64 p.ed, .int .i64 p.gr, .int .i64 p.lo, .int .i64 p.hi, .int .i64 p.sh, .int .i64 p.wi], .agg #[.int .i64 a, .int .i64 b], .int .i64 sh, .int .i64 v, .slice a0 len cap] w fun e w' => e = .returned (.bool true) ∧ Below w.heap.size w w' := by
  obtain ⟨aS, cS, rfl, _, _, _⟩ := id hS
  obtain ⟨aC, cC, rfl, _, _, _⟩ := id hC
  have HPar := Lib.hid (And.intro hS hC)
  have HNm := Lib.hid hn
  have HBg : Hid (∀ W, Below w.heap.size w W → Calls Try.prog 17 #[.agg #[.int .i64 p.s0, .int .i64 p.s1, (.slice aS p.S.n cS), (.slice aC p.C.n cC), .int .i64 p.ne, .int .i64 p.ed, .int .i64 p.gr, .int .i64 p.lo, .int .i64 p.hi, .int .i64 p.sh, .int .i64 p.wi]] W fun e w' => e = .returned (.bool (bigV p)) ∧ Below W.heap.size W w') := fun W hW => kbig_any p _ _ W (PairsAt.later hS hW) (PairsAt.later hC hW)
  clear hS hC hn
  have jA := (Blk.new w #[.int .i64 p.s0, .int .i64 p.s1, (.slice aS p.S.n cS), (.slice aC p.C.n cC), .int .i64 p.ne, .int .i64 p.ed, .int .i64 p.gr, .int .i64 p.lo, .int .i64 p.hi, .int .i64 p.sh, .int .i64 p.wi] 26).alloc (.cells #[.int .i64 a, .int .i64 b] 23)
  have jI := Blk.new1 w (.cells #[.int .i64 p.s0, .int .i64 p.s1, (.slice aS p.S.n cS), (.slice aC p.C.n cC), .int .i64 p.ne, .int .i64 p.ed, .int .i64 p.gr, .int .i64 p.lo, .int .i64 p.hi, .int .i64 p.sh, .int .i64 p.wi] 26) #[.int .i64 a, .int .i64 b] 23
  have jB : Below w.heap.size w ((w.alloc (.cells #[.int .i64 p.s0, .int .i64 p.s1, (.slice aS p.S.n cS), (.slice aC p.C.n cC), .int .i64 p.ne, .int .i64 p.ed, .int .i64 p.gr, .int .i64 p.lo, .int .i64 p.hi, .int .i64 p.sh, .int .i64 p.wi] 26)).alloc (.cells #[.int .i64 a, .int .i64 b] 23)) := by (repeat (first | exact Below.refl _ _ | assumption | refine Below.drew ?_ | refine Below.drewN ?_ _ | refine blT ?_ | refine blU ?_))
  go_enter Try.func7, Try.ntmps7
  go_upto_region 1 with fail
  obtain ⟨bA, hbA⟩ : ∃ b, w.heap.size = b := ⟨_, rfl⟩
  obtain ⟨bI, hbI⟩ : ∃ b, bA + 1 = b := ⟨_, rfl⟩
  rw [hbA] at jA jI
  (try rw [hbA])
  rw [hbI] at jI
  (try rw [hbI])
  have zwA : w.heap.size ≤ bA := by omega
  have zAI : bA < bI := by omega
  clear hbA hbI
  generalize (w.alloc (.cells #[.int .i64 p.s0, .int .i64 p.s1, (.slice aS p.S.n cS), (.slice aC p.C.n cC), .int .i64 p.ne, .int .i64 p.ed, .int .i64 p.gr, .int .i64 p.lo, .int .i64 p.hi, .int .i64 p.sh, .int .i64 p.wi] 26)).alloc (.cells #[.int .i64 a, .int .i64 b] 23) = V0 at jA jI jB ⊢
  go_cut [55] (fun s55 wx => ∃ b0 : Bool, s55 = .bool b0 ∧ Blk wx bA #[.int .i64 p.s0, .int .i64 p.s1, (.slice aS p.S.n cS), (.slice aC p.C.n cC), .int .i64 p.ne, .int .i64 p.ed, .int .i64 p.gr, .int .i64 p.lo, .int .i64 p.hi, .int .i64 p.sh, .int .i64 p.wi] 26 ∧ Blk wx bI #[.int .i64 a, .int .i64 b] 23 ∧ Below w.heap.size w wx)
  case first =>
    obtain ⟨c0, c1, c2, c3, c4, c5, c6, c7, c8, c9, c10⟩ := jA.c11
    have zA := jA.lt
    go_wp2_with fail
    clear c0 c1 c2 c3 c4 c5 c6 c7 c8 c9 c10 zA
    refine (HBg.out _ jB).mono ?_
    rintro e w1 ⟨rfl, hb⟩
    replace jA := jA.call hb
    replace jI := jI.call hb
    replace jB := bwS jB (Nat.le_refl _) hb
    clear hb HBg
    obtain ⟨f0, f1⟩ := jI.c2
    have zI := jI.lt
    cases bigV p with
    | true =>
      go_wp2_with fail
      go_meet
      exact ⟨_, rfl, jA, jI, jB⟩
    | false =>
      by_cases q1 : 0 ≤ a
      · by_cases q2 : a ≤ b
        · by_cases q3 : b ≤ 10000
          · have ew : IntKind.i64.wrap (b - a) = b - a := IntWalk.i64_in _ (by omega)
            go_wp2_with fail
            go_meet
            exact ⟨_, rfl, jA, jI, jB⟩
          · go_wp2_with fail
            go_meet
            exact ⟨_, rfl, jA, jI, jB⟩
        · go_wp2_with fail
          go_meet
          exact ⟨_, rfl, jA, jI, jB⟩
      · go_wp2_with fail
        go_meet
        exact ⟨_, rfl, jA, jI, jB⟩
  case rest =>
    clear jA jI jB HBg
    obtain ⟨bb, rfl, jA, jI, jB⟩ := hcut
    cases bb with
    | true =>
      go_wp2_with fail
      refine (awake_any _).mono ?_
      rintro e w9 ⟨rfl, hb⟩
      replace jB := bwS jB (Nat.le_refl _) hb
      go_wp2
      go_ret
      exact ⟨rfl, jB⟩
    | false =>
      go_wp2_with fail
      refine (newseed_at a0 len cap _ (nums_after HNm.out jB)).mono ?_
      rintro e w2 ⟨rfl, hS, hb⟩
      obtain ⟨bs, hbs⟩ : ∃ b, wc.heap.size = b := ⟨_, rfl⟩
      have zIs : bI < bs := by rw [← hbs]; exact jI.lt
      have zAs : bA < bs := by omega
      have zwbs : w.heap.size ≤ bs := by omega
      rw [hbs] at hS ⊢
      replace jA := jA.call hb
      replace jI := jI.call hb
      replace jB := bwS jB (Nat.le_refl _) hb
      clear hb hbs
      have hb1 := hS.choose_spec.lt
      go_wp2_with fail
      refine (plateof_in bs _ hS).mono ?_
      rintro e w3 ⟨p2, vO, vQ, rfl, hp, rO, rQ, hd⟩
      replace jB := Drawn.below jB hd zwbs
      replace jA := hd.blk jA (by omega)
      replace jI := hd.blk jI (by omega)
      replace hS := hd.seed
      replace rO := ownsRow_base (b1 := bs + 1) rO (by omega)
      replace rQ := ownsRow_base (b1 := bs + 1) rQ (by omega)
      clear hd hb1
      obtain ⟨aO, cO, rfl, _, _, _⟩ := pairs_of_row rO
      obtain ⟨aQ, cQ, rfl, _, _, _⟩ := pairs_of_row rQ
      have jO := Blk.new w3 #[.int .i64 p2.s0, .int .i64 p2.s1, (.slice aO p2.S.n cO), (.slice aQ p2.C.n cQ), .int .i64 p2.ne, .int .i64 p2.ed, .int .i64 p2.gr, .int .i64 p2.lo, .int .i64 p2.hi, .int .i64 p2.sh, .int .i64 p2.wi] 26
      go_upto_region 5 with fail
      obtain ⟨bO, hbO⟩ : ∃ b, w3.heap.size = b := ⟨_, rfl⟩
      have zsO : bs < bO := by rw [← hbO]; exact hS.choose_spec.lt
      rw [hbO] at jO
      (try rw [hbO])
      clear hbO
      replace rO := rO.alloc (.cells #[.int .i64 p2.s0, .int .i64 p2.s1, (.slice aO p2.S.n cO), (.slice aQ p2.C.n cQ), .int .i64 p2.ne, .int .i64 p2.ed, .int .i64 p2.gr, .int .i64 p2.lo, .int .i64 p2.hi, .int .i64 p2.sh, .int .i64 p2.wi] 26)
      replace rQ := rQ.alloc (.cells #[.int .i64 p2.s0, .int .i64 p2.s1, (.slice aO p2.S.n cO), (.slice aQ p2.C.n cQ), .int .i64 p2.ne, .int .i64 p2.ed, .int .i64 p2.gr, .int .i64 p2.lo, .int .i64 p2.hi, .int .i64 p2.sh, .int .i64 p2.wi] 26)
      replace jA := jA.alloc (.cells #[.int .i64 p2.s0, .int .i64 p2.s1, (.slice aO p2.S.n cO), (.slice aQ p2.C.n cQ), .int .i64 p2.ne, .int .i64 p2.ed, .int .i64 p2.gr, .int .i64 p2.lo, .int .i64 p2.hi, .int .i64 p2.sh, .int .i64 p2.wi] 26)
      replace jI := jI.alloc (.cells #[.int .i64 p2.s0, .int .i64 p2.s1, (.slice aO p2.S.n cO), (.slice aQ p2.C.n cQ), .int .i64 p2.ne, .int .i64 p2.ed, .int .i64 p2.gr, .int .i64 p2.lo, .int .i64 p2.hi, .int .i64 p2.sh, .int .i64 p2.wi] 26)
      replace hS : SeedAt bs _ := hS.imp fun _ h => h.alloc (.cells #[.int .i64 p2.s0, .int .i64 p2.s1, (.slice aO p2.S.n cO), (.slice aQ p2.C.n cQ), .int .i64 p2.ne, .int .i64 p2.ed, .int .i64 p2.gr, .int .i64 p2.lo, .int .i64 p2.hi, .int .i64 p2.sh, .int .i64 p2.wi] 26)
      replace jB := bwA jB (Nat.le_refl _) (.cells #[.int .i64 p2.s0, .int .i64 p2.s1, (.slice aO p2.S.n cO), (.slice aQ p2.C.n cQ), .int .i64 p2.ne, .int .i64 p2.ed, .int .i64 p2.gr, .int .i64 p2.lo, .int .i64 p2.hi, .int .i64 p2.sh, .int .i64 p2.wi] 26)
      generalize w3.alloc (.cells #[.int .i64 p2.s0, .int .i64 p2.s1, (.slice aO p2.S.n cO), (.slice aQ p2.C.n cQ), .int .i64 p2.ne, .int .i64 p2.ed, .int .i64 p2.gr, .int .i64 p2.lo, .int .i64 p2.hi, .int .i64 p2.sh, .int .i64 p2.wi] 26) = V5 at jO jA jI rO rQ hS jB ⊢
      go_wp2_with fail
      refine (below_in 300 bs _ hS (by decide)).mono ?_
      rintro e w4 ⟨y5, rfl, y50, y51, hd⟩
      replace rO := hd.row rO (by omega)
      replace rQ := hd.row rQ (by omega)
      replace jA := hd.blk jA (by omega)
      replace jI := hd.blk jI (by omega)
      replace jO := hd.blk jO (by omega)
      replace jB := Drawn.below jB hd zwbs
      replace hS := hd.seed
      clear hd
      go_wp2_with fail
      refine (below_in 9000 bs _ hS (by decide)).mono ?_
      rintro e w5 ⟨y6, rfl, y60, y61, hd⟩
      replace rO := hd.row rO (by omega)
      replace rQ := hd.row rQ (by omega)
      replace jA := hd.blk jA (by omega)
      replace jI := hd.blk jI (by omega)
      replace jO := hd.blk jO (by omega)
      replace jB := Drawn.below jB hd zwbs
      replace hS := hd.seed
      clear hd
      go_wp2_with fail
      refine (of3_in 0 y5 y6 0 9000 bs _ _ (by simp) hS (by decide) (by decide) (by omega) (by omega) (by omega) (by omega)).mono ?_
      rintro e w6 ⟨lo, rfl, lo0, lo1, hd⟩
      replace rO := hd.row (rO.alloc (.cells #[.int .i64 0, .int .i64 y5, .int .i64 y6] 3)) (by omega)
      replace rQ := hd.row (rQ.alloc (.cells #[.int .i64 0, .int .i64 y5, .int .i64 y6] 3)) (by omega)
      replace jA := hd.blk (jA.alloc (.cells #[.int .i64 0, .int .i64 y5, .int .i64 y6] 3)) (by omega)
      replace jI := hd.blk (jI.alloc (.cells #[.int .i64 0, .int .i64 y5, .int .i64 y6] 3)) (by omega)
      replace jO := hd.blk (jO.alloc (.cells #[.int .i64 0, .int .i64 y5, .int .i64 y6] 3)) (by omega)
      replace jB := Drawn.below (bwA jB (Nat.le_refl _) (.cells #[.int .i64 0, .int .i64 y5, .int .i64 y6] 3)) hd zwbs
      replace hS := hd.seed
      clear hd y50 y51 y60 y61
      have sh0 := hp.sh0
      have sh1 := hp.sh1
      have ews : IntKind.i64.wrap (p2.sh - 1) = p2.sh - 1 := IntWalk.i64_in _ (by omega)
      clear hp
      go_upto_region 6 with fail
      go_cut [14, 15] (fun s14 s15 wx => ∃ (bX : Nat) (hi nr : Int), s14 = .pointer (some ⟨bX, 0, none⟩) ∧ s15 = .int .i64 nr ∧ bX ≠ bs ∧ Blk wx bX #[.int .i64 lo, .int .i64 hi] 23 ∧ Blk wx bA #[.int .i64 p.s0, .int .i64 p.s1, (.slice aS p.S.n cS), (.slice aC p.C.n cC), .int .i64 p.ne, .int .i64 p.ed, .int .i64 p.gr, .int .i64 p.lo, .int .i64 p.hi, .int .i64 p.sh, .int .i64 p.wi] 26 ∧ Blk wx bI #[.int .i64 a, .int .i64 b] 23 ∧ Blk wx bO #[.int .i64 p2.s0, .int .i64 p2.s1, (.slice aO p2.S.n cO), (.slice aQ p2.C.n cQ), .int .i64 p2.ne, .int .i64 p2.ed, .int .i64 p2.gr, .int .i64 p2.lo, .int .i64 p2.hi, .int .i64 p2.sh, .int .i64 p2.wi] 26 ∧ wx.ownsRow (bs + 1) 68 2 (.slice aO p2.S.n cO) p2.S.n (catC (pairC p2.S.F p2.S.P) p2.S.n) ∧ wx.ownsRow (bs + 1) 68 2 (.slice aQ p2.C.n cQ) p2.C.n (catC (pairC p2.C.F p2.C.P) p2.C.n) ∧ SeedAt bs wx ∧ Below w.heap.size w wx)
      case first =>
        as_aux_lemma =>
          (
 refine wp_region_held_drew (S := (fun w' => Blk w' bA #[.int .i64 p.s0, .int .i64 p.s1, (.slice aS p.S.n cS), (.slice aC p.C.n cC), .int .i64 p.ne, .int .i64 p.ed, .int .i64 p.gr, .int .i64 p.lo, .int .i64 p.hi, .int .i64 p.sh, .int .i64 p.wi] 26 ∧ Blk w' bI #[.int .i64 a, .int .i64 b] 23 ∧ Blk w' bO #[.int .i64 p2.s0, .int .i64 p2.s1, (.slice aO p2.S.n cO), (.slice aQ p2.C.n cQ), .int .i64 p2.ne, .int .i64 p2.ed, .int .i64 p2.gr, .int .i64 p2.lo, .int .i64 p2.hi, .int .i64 p2.sh, .int .i64 p2.wi] 26 ∧ w'.ownsRow (bs + 1) 68 2 (.slice aO p2.S.n cO) p2.S.n (catC (pairC p2.S.F p2.S.P) p2.S.n) ∧ w'.ownsRow (bs + 1) 68 2 (.slice aQ p2.C.n cQ) p2.C.n (catC (pairC p2.C.F p2.C.P) p2.C.n) ∧ SeedAt bs w' ∧ Below w.heap.size w w')) (by kernel_rfl) ?_ (fun hH => ?_)
 · (try dsimp only); (exact ⟨jA.drew, jI.drew, jO.drew, rO.drew, rQ.drew, hS, jB.drew⟩)
 refine tkY 0 (some 68) ?_ ?_ ?_
 rotate_left
 · intro w _; go_simp; (try with_reducible rfl)
 (try simp only [cq])
 refine tkY 1 (some 69) ?_ ?_ ?_
 rotate_left
 · intro w _; go_simp; (try with_reducible rfl)
 (try simp only [cq])
 refine tkY 2 (some 70) ?_ ?_ ?_
 rotate_left
 · intro w _; go_simp; (try with_reducible rfl)
 (try simp only [cq])
 refine tkY 6 (some 74) ?_ ?_ ?_
 rotate_left
 · intro w _; go_simp; (try with_reducible rfl)
 (try simp only [cq])
 refine tkY 7 (some 75) ?_ ?_ ?_
 rotate_left
 · intro w hS0; (try dsimp only at hS0); obtain ⟨_, _, k3, _⟩ := hS0; obtain ⟨d0, d1, d2, d3, d4, d5, d6, d7, d8, d9, d10⟩ := k3.c11; have y1z := k3.lt;go_simp; (try with_reducible rfl)
 (try simp only [cq])
 refine tkY 8 (some 76) ?_ ?_ ?_
 rotate_left
 · intro w hS0; (try dsimp only at hS0); obtain ⟨_, _, k3, _⟩ := hS0; obtain ⟨d0, d1, d2, d3, d4, d5, d6, d7, d8, d9, d10⟩ := k3.c11; have y1z := k3.lt;go_simp; (try with_reducible rfl)
 (try simp only [cq])
 refine tkY 9 (some 77) ?_ ?_ ?_
 rotate_left
 · intro w hS0; (try dsimp only at hS0); obtain ⟨_, _, k3, _⟩ := hS0; obtain ⟨d0, d1, d2, d3, d4, d5, d6, d7, d8, d9, d10⟩ := k3.c11; have y1z := k3.lt;go_simp; (try with_reducible rfl)
 (try simp only [cq])
 refine tkY 10 (some 78) ?_ ?_ ?_
 rotate_left
 · intro w hS0; (try dsimp only at hS0); obtain ⟨_, _, k3, _⟩ := hS0; obtain ⟨d0, d1, d2, d3, d4, d5, d6, d7, d8, d9, d10⟩ := k3.c11; have y1z := k3.lt;go_simp; (try with_reducible rfl)
 (try simp only [cq])
 refine tkY 11 (some 79) ?_ ?_ ?_
 rotate_left
 · intro w _; go_simp; (try with_reducible rfl)
 (try simp only [cq])
 refine tkY 12 (some 80) ?_ ?_ ?_
 rotate_left
 · intro w hS0; (try dsimp only at hS0); obtain ⟨_, _, k3, _⟩ := hS0; obtain ⟨d0, d1, d2, d3, d4, d5, d6, d7, d8, d9, d10⟩ := k3.c11; have y1z := k3.lt;go_simp; (try with_reducible rfl)
 (try simp only [cq])
 refine tkY 13 (some 81) ?_ ?_ ?_
 rotate_left
 · intro w _; go_simp; (try with_reducible rfl)
 (try simp only [cq])
 refine wpAnyH_ready (rs := [3, 17]) (by kernel_rfl) (by simp) ?_
 refine arc (some 71) (fun K hK => ?_) ?_
 {
 go_simp
 (refine (below_in 60 bs _ hH.2.2.2.2.2.1 (by decide)).mono ?_; rintro e w' ⟨y1, rfl, y10, y11, hd⟩; have ew1 : IntKind.i64.wrap (lo + y1) = lo + y1 := IntWalk.i64_in _ (by omega); (try (replace kX := hd.blk kX (by omega))); (try (replace kL := hd.blk kL (by omega))))
 refine hK.out _ _ ?_ ?_
 · (exact ⟨hd.blk hH.1 (by omega), hd.blk hH.2.1 (by omega), hd.blk hH.2.2.1 (by omega), hd.row hH.2.2.2.1 (by omega), hd.row hH.2.2.2.2.1 (by omega), hd.seed, Drawn.below hH.2.2.2.2.2.2 hd zwbs⟩)
 (try clear hH); (try clear hd)
 intro hH
 clear hK K
 (try simp only [cq])
 refine tkY 4 (some 72) ?_ ?_ ?_
 rotate_left
 · intro w _; go_simp; (try with_reducible rfl)
 (try simp only [cq])
 refine tkY 5 (some 73) ?_ ?_ ?_
 rotate_left
 · intro w _; go_simp; (try with_reducible rfl)
 (try simp only [cq])
 refine wpAnyH_ready (rs := [14, 17]) (by kernel_rfl) (by simp) ?_
 refine arc (some 82) (fun K hK => ?_) ?_
 {
 go_simp
 (refine (below_in 1000 bs _ hH.2.2.2.2.2.1 (by decide)).mono ?_; rintro e w' ⟨y2, rfl, y20, y21, hd⟩; (try (replace kX := hd.blk kX (by omega))); (try (replace kL := hd.blk kL (by omega))))
 refine hK.out _ _ ?_ ?_
 · (exact ⟨hd.blk hH.1 (by omega), hd.blk hH.2.1 (by omega), hd.blk hH.2.2.1 (by omega), hd.row hH.2.2.2.1 (by omega), hd.row hH.2.2.2.2.1 (by omega), hd.seed, Drawn.below hH.2.2.2.2.2.2 hd zwbs⟩)
 (try clear hH); (try clear hd)
 intro hH
 clear hK K
 (try simp only [cq])
 refine wpAnyH_ready (rs := [15, 17]) (by kernel_rfl) (by simp) ?_
 refine arc (some 83) (fun K hK => ?_) ?_
 {
 have zz := hH.2.2.2.2.2.1.choose_spec.lt
 go_simp
 first | refine oA hK ?_ (fun hH hA => ?_) | refine oD hK ?_ (fun hH hA => ?_)
 · exact ⟨hH.1.alloc _, hH.2.1.alloc _, hH.2.2.1.alloc _, hH.2.2.2.1.alloc _, hH.2.2.2.2.1.alloc _, hH.2.2.2.2.2.1.imp fun _ h => h.alloc _, hH.2.2.2.2.2.2.alloc hH.2.2.2.2.2.2.size _⟩
 have kL := hA
 clear hA
 obtain ⟨bkL, hbkL⟩ : ∃ b, Blk.num kL = b := ⟨_, rfl⟩
 obtain ⟨Wn, hWn⟩ : ∃ V, Blk.wld kL = V := ⟨_, rfl⟩
 simp only [Blk.num] at hbkL
 simp only [Blk.wld] at hWn
 (try replace kX := awB hWn kX)
 rw [hWn] at hH kL ⊢
 have zkL : bs < bkL := (by rw [← hbkL]; exact zz)
 rw [hbkL] at kL ⊢
 clear hbkL hWn zz
 clear hK K
 (try simp only [cq])
 refine wpAnyH_ready (rs := [16, 17]) (by kernel_rfl) (by simp) ?_
 refine arc (some 84) (fun K hK => ?_) ?_
 {
 go_simp
 (refine (of_in bkL 0 4 4 (four4 0 p2.sh (max 0 (p2.sh - 1)) y2) bs _ hH.2.2.2.2.2.1 (by omega) (by decide) (by decide) (four_cells kL)).mono ?_; rintro e w' ⟨i9, _, rfl, hd⟩; (try (replace kX := hd.blk kX (by omega))); (try (replace kL := hd.blk kL (by omega))))
 refine hK.out _ _ ?_ ?_
 · (exact ⟨hd.blk hH.1 (by omega), hd.blk hH.2.1 (by omega), hd.blk hH.2.2.1 (by omega), hd.row hH.2.2.2.1 (by omega), hd.row hH.2.2.2.2.1 (by omega), hd.seed, Drawn.below hH.2.2.2.2.2.2 hd zwbs⟩)
 (try clear hH); (try clear hd)
 intro hH
 clear hK K
 (try simp only [cq])
 refine wpAnyH_ready (rs := [17]) (by kernel_rfl) (by simp) ?_
 refine arc1 (some 14) fun K hK => ?_
 have zz := hH.2.2.2.2.2.1.choose_spec.lt
 go_simp
 first | refine oA hK ?_ (fun hH hA => ?_) | refine oD hK ?_ (fun hH hA => ?_)
 · exact ⟨hH.1.alloc _, hH.2.1.alloc _, hH.2.2.1.alloc _, hH.2.2.2.1.alloc _, hH.2.2.2.2.1.alloc _, hH.2.2.2.2.2.1.imp fun _ h => h.alloc _, hH.2.2.2.2.2.2.alloc hH.2.2.2.2.2.2.size _⟩
 have kX := hA
 clear hA
 obtain ⟨bkX, hbkX⟩ : ∃ b, Blk.num kX = b := ⟨_, rfl⟩
 obtain ⟨Wn, hWn⟩ : ∃ V, Blk.wld kX = V := ⟨_, rfl⟩
 simp only [Blk.num] at hbkX
 simp only [Blk.wld] at hWn
 (try replace kL := awB hWn kL)
 rw [hWn] at hH kX ⊢
 have zkX : bs < bkX := (by rw [← hbkX]; exact zz)
 rw [hbkX] at kX ⊢
 clear hbkX hWn zz
 clear hK K
 (try simp only [cq])
 refine wpAnyH_ready (rs := [18]) (by kernel_rfl) (by simp) ?_
 refine arc1 none fun K hK => ?_
 have fx0 := kX.free 0
 have fx1 := kX.free 1
 have zx := kX.lt
 obtain ⟨gx0, gx1⟩ := kX.c2
 have kX9 := Lib.hid (blk_set2 kX (.int .i64 lo) (.int .i64 (lo + y1)))
 go_simp
 refine hK.out _ _ ?_ ?_
 · exact ⟨(hH.1.other _ _ (by simp; omega)).other _ _ (by simp; omega), (hH.2.1.other _ _ (by simp; omega)).other _ _ (by simp; omega), (hH.2.2.1.other _ _ (blk_ne2 hH.2.2.1 kX (by decide))).other _ _ (blk_ne2 hH.2.2.1 kX (by decide)), row_set_type (row_set_type hH.2.2.2.1 kX (by decide) _ _) (kX.set _ _) (by decide) _ _, row_set_type (row_set_type hH.2.2.2.2.1 kX (by decide) _ _) (kX.set _ _) (by decide) _ _, (hH.2.2.2.2.2.1.imp fun _ h => (h.other _ _ (by simp; omega)).other _ _ (by simp; omega)), (hH.2.2.2.2.2.2.setCell (by simp; omega) _).setCell (by simp; omega) _⟩
 (try clear hH); (try clear hd)
 intro hH
 clear hK K
 (try simp only [cq])
 refine tkY 19 (some 15) ?_ ?_ ?_
 rotate_left
 · intro w _; go_simp; (try with_reducible rfl)
 (try simp only [cq])
 refine wpAnyH_done (by kernel_rfl) ?_ _
 (try dsimp only [Act.put])
 (try simp only [cq])
 go_wp2_with fail
 go_meet
 exact ⟨bkX, _, _, rfl, rfl, by omega, kX9.out, hH⟩
 }
 refine arc (some 14) (fun K hK => ?_) ?_
 {
 have zz := hH.2.2.2.2.2.1.choose_spec.lt
 go_simp
 first | refine oA hK ?_ (fun hH hA => ?_) | refine oD hK ?_ (fun hH hA => ?_)
 · exact ⟨hH.1.alloc _, hH.2.1.alloc _, hH.2.2.1.alloc _, hH.2.2.2.1.alloc _, hH.2.2.2.2.1.alloc _, hH.2.2.2.2.2.1.imp fun _ h => h.alloc _, hH.2.2.2.2.2.2.alloc hH.2.2.2.2.2.2.size _⟩
 have kX := hA
 clear hA
 obtain ⟨bkX, hbkX⟩ : ∃ b, Blk.num kX = b := ⟨_, rfl⟩
 obtain ⟨Wn, hWn⟩ : ∃ V, Blk.wld kX = V := ⟨_, rfl⟩
 simp only [Blk.num] at hbkX
 simp only [Blk.wld] at hWn
 (try replace kL := awB hWn kL)
 rw [hWn] at hH kX ⊢
 have zkX : bs < bkX := (by rw [← hbkX]; exact zz)
 rw [hbkX] at kX ⊢
 clear hbkX hWn zz
 clear hK K
 (try simp only [cq])
 refine wpAnyH_ready (rs := [16]) (by kernel_rfl) (by simp) ?_
 refine arc1 (some 84) fun K hK => ?_
 go_simp
 (refine (of_in bkL 0 4 4 (four4 0 p2.sh (max 0 (p2.sh - 1)) y2) bs _ hH.2.2.2.2.2.1 (by omega) (by decide) (by decide) (four_cells kL)).mono ?_; rintro e w' ⟨i9, _, rfl, hd⟩; (try (replace kX := hd.blk kX (by omega))); (try (replace kL := hd.blk kL (by omega))))
 refine hK.out _ _ ?_ ?_
 · (exact ⟨hd.blk hH.1 (by omega), hd.blk hH.2.1 (by omega), hd.blk hH.2.2.1 (by omega), hd.row hH.2.2.2.1 (by omega), hd.row hH.2.2.2.2.1 (by omega), hd.seed, Drawn.below hH.2.2.2.2.2.2 hd zwbs⟩)
 (try clear hH); (try clear hd)
 intro hH
 clear hK K
 (try simp only [cq])
 refine wpAnyH_ready (rs := [18]) (by kernel_rfl) (by simp) ?_
 refine arc1 none fun K hK => ?_
 have fx0 := kX.free 0
 have fx1 := kX.free 1
 have zx := kX.lt
 obtain ⟨gx0, gx1⟩ := kX.c2
 have kX9 := Lib.hid (blk_set2 kX (.int .i64 lo) (.int .i64 (lo + y1)))
 go_simp
 refine hK.out _ _ ?_ ?_
 · exact ⟨(hH.1.other _ _ (by simp; omega)).other _ _ (by simp; omega), (hH.2.1.other _ _ (by simp; omega)).other _ _ (by simp; omega), (hH.2.2.1.other _ _ (blk_ne2 hH.2.2.1 kX (by decide))).other _ _ (blk_ne2 hH.2.2.1 kX (by decide)), row_set_type (row_set_type hH.2.2.2.1 kX (by decide) _ _) (kX.set _ _) (by decide) _ _, row_set_type (row_set_type hH.2.2.2.2.1 kX (by decide) _ _) (kX.set _ _) (by decide) _ _, (hH.2.2.2.2.2.1.imp fun _ h => (h.other _ _ (by simp; omega)).other _ _ (by simp; omega)), (hH.2.2.2.2.2.2.setCell (by simp; omega) _).setCell (by simp; omega) _⟩
 (try clear hH); (try clear hd)
 intro hH
 clear hK K
 (try simp only [cq])
 refine tkY 19 (some 15) ?_ ?_ ?_
 rotate_left
 · intro w _; go_simp; (try with_reducible rfl)
 (try simp only [cq])
 refine wpAnyH_done (by kernel_rfl) ?_ _
 (try dsimp only [Act.put])
 (try simp only [cq])
 go_wp2_with fail
 go_meet
 exact ⟨bkX, _, _, rfl, rfl, by omega, kX9.out, hH⟩
 }
 exact AllReadyH.nil
 }
 refine arc (some 14) (fun K hK => ?_) ?_
 {
 have zz := hH.2.2.2.2.2.1.choose_spec.lt
 go_simp
 first | refine oA hK ?_ (fun hH hA => ?_) | refine oD hK ?_ (fun hH hA => ?_)
 · exact ⟨hH.1.alloc _, hH.2.1.alloc _, hH.2.2.1.alloc _, hH.2.2.2.1.alloc _, hH.2.2.2.2.1.alloc _, hH.2.2.2.2.2.1.imp fun _ h => h.alloc _, hH.2.2.2.2.2.2.alloc hH.2.2.2.2.2.2.size _⟩
 have kX := hA
 clear hA
 obtain ⟨bkX, hbkX⟩ : ∃ b, Blk.num kX = b := ⟨_, rfl⟩
 obtain ⟨Wn, hWn⟩ : ∃ V, Blk.wld kX = V := ⟨_, rfl⟩
 simp only [Blk.num] at hbkX
 simp only [Blk.wld] at hWn
 (try replace kL := awB hWn kL)
 rw [hWn] at hH kX ⊢
 have zkX : bs < bkX := (by rw [← hbkX]; exact zz)
 rw [hbkX] at kX ⊢
 clear hbkX hWn zz
 clear hK K
 (try simp only [cq])
 refine wpAnyH_ready (rs := [15]) (by kernel_rfl) (by simp) ?_
 refine arc1 (some 83) fun K hK => ?_
 have zz := hH.2.2.2.2.2.1.choose_spec.lt
 go_simp
 first | refine oA hK ?_ (fun hH hA => ?_) | refine oD hK ?_ (fun hH hA => ?_)
 · exact ⟨hH.1.alloc _, hH.2.1.alloc _, hH.2.2.1.alloc _, hH.2.2.2.1.alloc _, hH.2.2.2.2.1.alloc _, hH.2.2.2.2.2.1.imp fun _ h => h.alloc _, hH.2.2.2.2.2.2.alloc hH.2.2.2.2.2.2.size _⟩
 have kL := hA
 clear hA
 obtain ⟨bkL, hbkL⟩ : ∃ b, Blk.num kL = b := ⟨_, rfl⟩
 obtain ⟨Wn, hWn⟩ : ∃ V, Blk.wld kL = V := ⟨_, rfl⟩
 simp only [Blk.num] at hbkL
 simp only [Blk.wld] at hWn
 (try replace kX := awB hWn kX)
 rw [hWn] at hH kL ⊢
 have zkL : bs < bkL := (by rw [← hbkL]; exact zz)
 rw [hbkL] at kL ⊢
 clear hbkL hWn zz
 clear hK K
 (try simp only [cq])
 refine wpAnyH_ready (rs := [16]) (by kernel_rfl) (by simp) ?_
 refine arc1 (some 84) fun K hK => ?_
 go_simp
 (refine (of_in bkL 0 4 4 (four4 0 p2.sh (max 0 (p2.sh - 1)) y2) bs _ hH.2.2.2.2.2.1 (by omega) (by decide) (by decide) (four_cells kL)).mono ?_; rintro e w' ⟨i9, _, rfl, hd⟩; (try (replace kX := hd.blk kX (by omega))); (try (replace kL := hd.blk kL (by omega))))
 refine hK.out _ _ ?_ ?_
 · (exact ⟨hd.blk hH.1 (by omega), hd.blk hH.2.1 (by omega), hd.blk hH.2.2.1 (by omega), hd.row hH.2.2.2.1 (by omega), hd.row hH.2.2.2.2.1 (by omega), hd.seed, Drawn.below hH.2.2.2.2.2.2 hd zwbs⟩)
 (try clear hH); (try clear hd)
 intro hH
 clear hK K
 (try simp only [cq])
 refine wpAnyH_ready (rs := [18]) (by kernel_rfl) (by simp) ?_
 refine arc1 none fun K hK => ?_
 have fx0 := kX.free 0
 have fx1 := kX.free 1
 have zx := kX.lt
 obtain ⟨gx0, gx1⟩ := kX.c2
 have kX9 := Lib.hid (blk_set2 kX (.int .i64 lo) (.int .i64 (lo + y1)))
 go_simp
 refine hK.out _ _ ?_ ?_
 · exact ⟨(hH.1.other _ _ (by simp; omega)).other _ _ (by simp; omega), (hH.2.1.other _ _ (by simp; omega)).other _ _ (by simp; omega), (hH.2.2.1.other _ _ (blk_ne2 hH.2.2.1 kX (by decide))).other _ _ (blk_ne2 hH.2.2.1 kX (by decide)), row_set_type (row_set_type hH.2.2.2.1 kX (by decide) _ _) (kX.set _ _) (by decide) _ _, row_set_type (row_set_type hH.2.2.2.2.1 kX (by decide) _ _) (kX.set _ _) (by decide) _ _, (hH.2.2.2.2.2.1.imp fun _ h => (h.other _ _ (by simp; omega)).other _ _ (by simp; omega)), (hH.2.2.2.2.2.2.setCell (by simp; omega) _).setCell (by simp; omega) _⟩
 (try clear hH); (try clear hd)
 intro hH
 clear hK K
 (try simp only [cq])
 refine tkY 19 (some 15) ?_ ?_ ?_
 rotate_left
 · intro w _; go_simp; (try with_reducible rfl)
 (try simp only [cq])
 refine wpAnyH_done (by kernel_rfl) ?_ _
 (try dsimp only [Act.put])
 (try simp only [cq])
 go_wp2_with fail
 go_meet
 exact ⟨bkX, _, _, rfl, rfl, by omega, kX9.out, hH⟩
 }
 exact AllReadyH.nil
 }
 refine arc (some 14) (fun K hK => ?_) ?_
 {
 have zz := hH.2.2.2.2.2.1.choose_spec.lt
 go_simp
 first | refine oA hK ?_ (fun hH hA => ?_) | refine oD hK ?_ (fun hH hA => ?_)
 · exact ⟨hH.1.alloc _, hH.2.1.alloc _, hH.2.2.1.alloc _, hH.2.2.2.1.alloc _, hH.2.2.2.2.1.alloc _, hH.2.2.2.2.2.1.imp fun _ h => h.alloc _, hH.2.2.2.2.2.2.alloc hH.2.2.2.2.2.2.size _⟩
 have kX := hA
 clear hA
 obtain ⟨bkX, hbkX⟩ : ∃ b, Blk.num kX = b := ⟨_, rfl⟩
 obtain ⟨Wn, hWn⟩ : ∃ V, Blk.wld kX = V := ⟨_, rfl⟩
 simp only [Blk.num] at hbkX
 simp only [Blk.wld] at hWn
 (try replace kL := awB hWn kL)
 rw [hWn] at hH kX ⊢
 have zkX : bs < bkX := (by rw [← hbkX]; exact zz)
 rw [hbkX] at kX ⊢
 clear hbkX hWn zz
 clear hK K
 (try simp only [cq])
 refine wpAnyH_ready (rs := [14]) (by kernel_rfl) (by simp) ?_
 refine arc1 (some 82) fun K hK => ?_
 go_simp
 (refine (below_in 1000 bs _ hH.2.2.2.2.2.1 (by decide)).mono ?_; rintro e w' ⟨y2, rfl, y20, y21, hd⟩; (try (replace kX := hd.blk kX (by omega))); (try (replace kL := hd.blk kL (by omega))))
 refine hK.out _ _ ?_ ?_
 · (exact ⟨hd.blk hH.1 (by omega), hd.blk hH.2.1 (by omega), hd.blk hH.2.2.1 (by omega), hd.row hH.2.2.2.1 (by omega), hd.row hH.2.2.2.2.1 (by omega), hd.seed, Drawn.below hH.2.2.2.2.2.2 hd zwbs⟩)
 (try clear hH); (try clear hd)
 intro hH
 clear hK K
 (try simp only [cq])
 refine wpAnyH_ready (rs := [15]) (by kernel_rfl) (by simp) ?_
 refine arc1 (some 83) fun K hK => ?_
 have zz := hH.2.2.2.2.2.1.choose_spec.lt
 go_simp
 first | refine oA hK ?_ (fun hH hA => ?_) | refine oD hK ?_ (fun hH hA => ?_)
 · exact ⟨hH.1.alloc _, hH.2.1.alloc _, hH.2.2.1.alloc _, hH.2.2.2.1.alloc _, hH.2.2.2.2.1.alloc _, hH.2.2.2.2.2.1.imp fun _ h => h.alloc _, hH.2.2.2.2.2.2.alloc hH.2.2.2.2.2.2.size _⟩
 have kL := hA
 clear hA
 obtain ⟨bkL, hbkL⟩ : ∃ b, Blk.num kL = b := ⟨_, rfl⟩
 obtain ⟨Wn, hWn⟩ : ∃ V, Blk.wld kL = V := ⟨_, rfl⟩
 simp only [Blk.num] at hbkL
 simp only [Blk.wld] at hWn
 (try replace kX := awB hWn kX)
 rw [hWn] at hH kL ⊢
 have zkL : bs < bkL := (by rw [← hbkL]; exact zz)
 rw [hbkL] at kL ⊢
 clear hbkL hWn zz
 clear hK K
 (try simp only [cq])
 refine wpAnyH_ready (rs := [16]) (by kernel_rfl) (by simp) ?_
 refine arc1 (some 84) fun K hK => ?_
 go_simp
 (refine (of_in bkL 0 4 4 (four4 0 p2.sh (max 0 (p2.sh - 1)) y2) bs _ hH.2.2.2.2.2.1 (by omega) (by decide) (by decide) (four_cells kL)).mono ?_; rintro e w' ⟨i9, _, rfl, hd⟩; (try (replace kX := hd.blk kX (by omega))); (try (replace kL := hd.blk kL (by omega))))
 refine hK.out _ _ ?_ ?_
 · (exact ⟨hd.blk hH.1 (by omega), hd.blk hH.2.1 (by omega), hd.blk hH.2.2.1 (by omega), hd.row hH.2.2.2.1 (by omega), hd.row hH.2.2.2.2.1 (by omega), hd.seed, Drawn.below hH.2.2.2.2.2.2 hd zwbs⟩)
 (try clear hH); (try clear hd)
 intro hH
 clear hK K
 (try simp only [cq])
 refine wpAnyH_ready (rs := [18]) (by kernel_rfl) (by simp) ?_
 refine arc1 none fun K hK => ?_
 have fx0 := kX.free 0
 have fx1 := kX.free 1
 have zx := kX.lt
 obtain ⟨gx0, gx1⟩ := kX.c2
 have kX9 := Lib.hid (blk_set2 kX (.int .i64 lo) (.int .i64 (lo + y1)))
 go_simp
 refine hK.out _ _ ?_ ?_
 · exact ⟨(hH.1.other _ _ (by simp; omega)).other _ _ (by simp; omega), (hH.2.1.other _ _ (by simp; omega)).other _ _ (by simp; omega), (hH.2.2.1.other _ _ (blk_ne2 hH.2.2.1 kX (by decide))).other _ _ (blk_ne2 hH.2.2.1 kX (by decide)), row_set_type (row_set_type hH.2.2.2.1 kX (by decide) _ _) (kX.set _ _) (by decide) _ _, row_set_type (row_set_type hH.2.2.2.2.1 kX (by decide) _ _) (kX.set _ _) (by decide) _ _, (hH.2.2.2.2.2.1.imp fun _ h => (h.other _ _ (by simp; omega)).other _ _ (by simp; omega)), (hH.2.2.2.2.2.2.setCell (by simp; omega) _).setCell (by simp; omega) _⟩
 (try clear hH); (try clear hd)
 intro hH
 clear hK K
 (try simp only [cq])
 refine tkY 19 (some 15) ?_ ?_ ?_
 rotate_left
 · intro w _; go_simp; (try with_reducible rfl)
 (try simp only [cq])
 refine wpAnyH_done (by kernel_rfl) ?_ _
 (try dsimp only [Act.put])
 (try simp only [cq])
 go_wp2_with fail
 go_meet
 exact ⟨bkX, _, _, rfl, rfl, by omega, kX9.out, hH⟩
 }
 exact AllReadyH.nil
 }
 refine arc (some 14) (fun K hK => ?_) ?_
 {
 have zz := hH.2.2.2.2.2.1.choose_spec.lt
 go_simp
 first | refine oA hK ?_ (fun hH hA => ?_) | refine oD hK ?_ (fun hH hA => ?_)
 · exact ⟨hH.1.alloc _, hH.2.1.alloc _, hH.2.2.1.alloc _, hH.2.2.2.1.alloc _, hH.2.2.2.2.1.alloc _, hH.2.2.2.2.2.1.imp fun _ h => h.alloc _, hH.2.2.2.2.2.2.alloc hH.2.2.2.2.2.2.size _⟩
 have kX := hA
 clear hA
 obtain ⟨bkX, hbkX⟩ : ∃ b, Blk.num kX = b := ⟨_, rfl⟩
 obtain ⟨Wn, hWn⟩ : ∃ V, Blk.wld kX = V := ⟨_, rfl⟩
 simp only [Blk.num] at hbkX
 simp only [Blk.wld] at hWn
 (try replace kL := awB hWn kL)
 rw [hWn] at hH kX ⊢
 have zkX : bs < bkX := (by rw [← hbkX]; exact zz)
 rw [hbkX] at kX ⊢
 clear hbkX hWn zz
 clear hK K
 (try simp only [cq])
 refine wpAnyH_ready (rs := [3]) (by kernel_rfl) (by simp) ?_
 refine arc1 (some 71) fun K hK => ?_
 go_simp
 (refine (below_in 60 bs _ hH.2.2.2.2.2.1 (by decide)).mono ?_; rintro e w' ⟨y1, rfl, y10, y11, hd⟩; have ew1 : IntKind.i64.wrap (lo + y1) = lo + y1 := IntWalk.i64_in _ (by omega); (try (replace kX := hd.blk kX (by omega))); (try (replace kL := hd.blk kL (by omega))))
 refine hK.out _ _ ?_ ?_
 · (exact ⟨hd.blk hH.1 (by omega), hd.blk hH.2.1 (by omega), hd.blk hH.2.2.1 (by omega), hd.row hH.2.2.2.1 (by omega), hd.row hH.2.2.2.2.1 (by omega), hd.seed, Drawn.below hH.2.2.2.2.2.2 hd zwbs⟩)
 (try clear hH); (try clear hd)
 intro hH
 clear hK K
 (try simp only [cq])
 refine tkY 4 (some 72) ?_ ?_ ?_
 rotate_left
 · intro w _; go_simp; (try with_reducible rfl)
 (try simp only [cq])
 refine tkY 5 (some 73) ?_ ?_ ?_
 rotate_left
 · intro w _; go_simp; (try with_reducible rfl)
 (try simp only [cq])
 refine wpAnyH_ready (rs := [14]) (by kernel_rfl) (by simp) ?_
 refine arc1 (some 82) fun K hK => ?_
 go_simp
 (refine (below_in 1000 bs _ hH.2.2.2.2.2.1 (by decide)).mono ?_; rintro e w' ⟨y2, rfl, y20, y21, hd⟩; (try (replace kX := hd.blk kX (by omega))); (try (replace kL := hd.blk kL (by omega))))
 refine hK.out _ _ ?_ ?_
 · (exact ⟨hd.blk hH.1 (by omega), hd.blk hH.2.1 (by omega), hd.blk hH.2.2.1 (by omega), hd.row hH.2.2.2.1 (by omega), hd.row hH.2.2.2.2.1 (by omega), hd.seed, Drawn.below hH.2.2.2.2.2.2 hd zwbs⟩)
 (try clear hH); (try clear hd)
 intro hH
 clear hK K
 (try simp only [cq])
 refine wpAnyH_ready (rs := [15]) (by kernel_rfl) (by simp) ?_
 refine arc1 (some 83) fun K hK => ?_
 have zz := hH.2.2.2.2.2.1.choose_spec.lt
 go_simp
 first | refine oA hK ?_ (fun hH hA => ?_) | refine oD hK ?_ (fun hH hA => ?_)
 · exact ⟨hH.1.alloc _, hH.2.1.alloc _, hH.2.2.1.alloc _, hH.2.2.2.1.alloc _, hH.2.2.2.2.1.alloc _, hH.2.2.2.2.2.1.imp fun _ h => h.alloc _, hH.2.2.2.2.2.2.alloc hH.2.2.2.2.2.2.size _⟩
 have kL := hA
 clear hA
 obtain ⟨bkL, hbkL⟩ : ∃ b, Blk.num kL = b := ⟨_, rfl⟩
 obtain ⟨Wn, hWn⟩ : ∃ V, Blk.wld kL = V := ⟨_, rfl⟩
 simp only [Blk.num] at hbkL
 simp only [Blk.wld] at hWn
 (try replace kX := awB hWn kX)
 rw [hWn] at hH kL ⊢
 have zkL : bs < bkL := (by rw [← hbkL]; exact zz)
 rw [hbkL] at kL ⊢
 clear hbkL hWn zz
 clear hK K
 (try simp only [cq])
 refine wpAnyH_ready (rs := [16]) (by kernel_rfl) (by simp) ?_
 refine arc1 (some 84) fun K hK => ?_
 go_simp
 (refine (of_in bkL 0 4 4 (four4 0 p2.sh (max 0 (p2.sh - 1)) y2) bs _ hH.2.2.2.2.2.1 (by omega) (by decide) (by decide) (four_cells kL)).mono ?_; rintro e w' ⟨i9, _, rfl, hd⟩; (try (replace kX := hd.blk kX (by omega))); (try (replace kL := hd.blk kL (by omega))))
 refine hK.out _ _ ?_ ?_
 · (exact ⟨hd.blk hH.1 (by omega), hd.blk hH.2.1 (by omega), hd.blk hH.2.2.1 (by omega), hd.row hH.2.2.2.1 (by omega), hd.row hH.2.2.2.2.1 (by omega), hd.seed, Drawn.below hH.2.2.2.2.2.2 hd zwbs⟩)
 (try clear hH); (try clear hd)
 intro hH
 clear hK K
 (try simp only [cq])
 refine wpAnyH_ready (rs := [18]) (by kernel_rfl) (by simp) ?_
 refine arc1 none fun K hK => ?_
 have fx0 := kX.free 0
 have fx1 := kX.free 1
 have zx := kX.lt
 obtain ⟨gx0, gx1⟩ := kX.c2
 have kX9 := Lib.hid (blk_set2 kX (.int .i64 lo) (.int .i64 (lo + y1)))
 go_simp
 refine hK.out _ _ ?_ ?_
 · exact ⟨(hH.1.other _ _ (by simp; omega)).other _ _ (by simp; omega), (hH.2.1.other _ _ (by simp; omega)).other _ _ (by simp; omega), (hH.2.2.1.other _ _ (blk_ne2 hH.2.2.1 kX (by decide))).other _ _ (blk_ne2 hH.2.2.1 kX (by decide)), row_set_type (row_set_type hH.2.2.2.1 kX (by decide) _ _) (kX.set _ _) (by decide) _ _, row_set_type (row_set_type hH.2.2.2.2.1 kX (by decide) _ _) (kX.set _ _) (by decide) _ _, (hH.2.2.2.2.2.1.imp fun _ h => (h.other _ _ (by simp; omega)).other _ _ (by simp; omega)), (hH.2.2.2.2.2.2.setCell (by simp; omega) _).setCell (by simp; omega) _⟩
 (try clear hH); (try clear hd)
 intro hH
 clear hK K
 (try simp only [cq])
 refine tkY 19 (some 15) ?_ ?_ ?_
 rotate_left
 · intro w _; go_simp; (try with_reducible rfl)
 (try simp only [cq])
 refine wpAnyH_done (by kernel_rfl) ?_ _
 (try dsimp only [Act.put])
 (try simp only [cq])
 go_wp2_with fail
 go_meet
 exact ⟨bkX, _, _, rfl, rfl, by omega, kX9.out, hH⟩
 }
 exact AllReadyH.nil )
      case rest =>
        clear jA jI jO rO rQ hS jB ews sh0 sh1
        obtain ⟨bX, hi, nr, rfl, rfl, zXs, jX, jA, jI, jO, rO, rQ, hS, jB⟩ := hcut
        go_upto_region 7 with fail
        go_cut [16, 17, 18, 19] (fun s16 s17 s18 s19 V => ∃ (b1 b2 b3 b4 : Nat), s16 = .slice (some ⟨b1, 0, none⟩) 3 3 ∧ s17 = .slice (some ⟨b2, 0, none⟩) 3 3 ∧ s18 = .slice (some ⟨b3, 0, none⟩) 3 3 ∧ s19 = .slice (some ⟨b4, 0, none⟩) 3 3 ∧ (∀ k, k < 3 → ∃ (x : Pl) (uS uC : Value) (q1 q2 q3 q4 : Int), Pq V b1 k x uS uC ∧ V.cell? ⟨b2, k * 2, none⟩ = some (.int .i64 q1) ∧ V.cell? ⟨b2, k * 2 + 1, none⟩ = some (.int .i64 q2) ∧ V.cell? ⟨b3, k, none⟩ = some (.int .i64 q3) ∧ V.cell? ⟨b4, k, none⟩ = some (.int .i64 q4)) ∧ Below w.heap.size w V)
        case first =>
          let S9 : World → Prop := (fun w' => Blk w' bA #[.int .i64 p.s0, .int .i64 p.s1, (.slice aS p.S.n cS), (.slice aC p.C.n cC), .int .i64 p.ne, .int .i64 p.ed, .int .i64 p.gr, .int .i64 p.lo, .int .i64 p.hi, .int .i64 p.sh, .int .i64 p.wi] 26 ∧ Blk w' bI #[.int .i64 a, .int .i64 b] 23 ∧ Blk w' bO #[.int .i64 p2.s0, .int .i64 p2.s1, (.slice aO p2.S.n cO), (.slice aQ p2.C.n cQ), .int .i64 p2.ne, .int .i64 p2.ed, .int .i64 p2.gr, .int .i64 p2.lo, .int .i64 p2.hi, .int .i64 p2.sh, .int .i64 p2.wi] 26 ∧ Blk w' bX #[.int .i64 lo, .int .i64 hi] 23 ∧ w'.ownsRow (bs + 1) 68 2 (.slice aO p2.S.n cO) p2.S.n (catC (pairC p2.S.F p2.S.P) p2.S.n) ∧ w'.ownsRow (bs + 1) 68 2 (.slice aQ p2.C.n cQ) p2.C.n (catC (pairC p2.C.F p2.C.P) p2.C.n) ∧ SeedAt bs w' ∧ Below w.heap.size w w')
          refine wp_region_held_drew (S := S9) (by kernel_rfl) ?_ (fun hH => ?_)
          · (try dsimp only); (exact ⟨jA.drew, jI.drew, jO.drew, jX.drew, rO.drew, rQ.drew, hS, jB.drew⟩)
          apply share1_4 (fun (t : Int) (bP bQ bR bT : Nat) (W : World) => S9 W ∧ Blk W bP #[.int .i64 p.s0, .int .i64 p.s1, (.slice aS p.S.n cS), (.slice aC p.C.n cC), .int .i64 p.ne, .int .i64 p.ed, .int .i64 p.gr, .int .i64 p.lo, .int .i64 p.hi, .int .i64 p.sh, .int .i64 p.wi, .int .i64 p2.s0, .int .i64 p2.s1, (.slice aO p2.S.n cO), (.slice aQ p2.C.n cQ), .int .i64 p2.ne, .int .i64 p2.ed, .int .i64 p2.gr, .int .i64 p2.lo, .int .i64 p2.hi, .int .i64 p2.sh, .int .i64 p2.wi, .int .i64 p2.s0, .int .i64 p2.s1, (.slice aO p2.S.n cO), (.slice aQ p2.C.n cQ), .int .i64 p2.ne, .int .i64 p2.ed, .int .i64 p2.gr, .int .i64 p2.lo, .int .i64 p2.hi, .int .i64 p2.sh, .int .i64 p2.wi] 26 ∧ Blk W bQ #[.int .i64 a, .int .i64 b, .int .i64 lo, .int .i64 hi, .int .i64 a, .int .i64 b] 23 ∧ Blk W bR #[.int .i64 sh, .int .i64 nr, .int .i64 sh] 3 ∧ Blk W bT #[.int .i64 v, .int .i64 t, .int .i64 v] 3 ∧ (bs < bP) ∧ (bs < bQ) ∧ (bs < bR) ∧ (bs < bT) ∧ (bP ≠ bQ) ∧ (bP ≠ bR) ∧ (bP ≠ bT) ∧ (bQ ≠ bR) ∧ (bQ ≠ bT) ∧ (bR ≠ bT))
          {
          intro X1_0123
          apply share1_3 (fun (t : Int) (bP bQ bR : Nat) (W : World) => S9 W ∧ Blk W bP #[.int .i64 p.s0, .int .i64 p.s1, (.slice aS p.S.n cS), (.slice aC p.C.n cC), .int .i64 p.ne, .int .i64 p.ed, .int .i64 p.gr, .int .i64 p.lo, .int .i64 p.hi, .int .i64 p.sh, .int .i64 p.wi, .int .i64 p2.s0, .int .i64 p2.s1, (.slice aO p2.S.n cO), (.slice aQ p2.C.n cQ), .int .i64 p2.ne, .int .i64 p2.ed, .int .i64 p2.gr, .int .i64 p2.lo, .int .i64 p2.hi, .int .i64 p2.sh, .int .i64 p2.wi, .int .i64 p2.s0, .int .i64 p2.s1, (.slice aO p2.S.n cO), (.slice aQ p2.C.n cQ), .int .i64 p2.ne, .int .i64 p2.ed, .int .i64 p2.gr, .int .i64 p2.lo, .int .i64 p2.hi, .int .i64 p2.sh, .int .i64 p2.wi] 26 ∧ Blk W bQ #[.int .i64 a, .int .i64 b, .int .i64 lo, .int .i64 hi, .int .i64 a, .int .i64 b] 23 ∧ Blk W bR #[.int .i64 sh, .int .i64 nr, .int .i64 sh] 3 ∧ (bs < bP) ∧ (bs < bQ) ∧ (bs < bR) ∧ (bP ≠ bQ) ∧ (bP ≠ bR) ∧ (bQ ≠ bR))
          {
          intro X1_012
          apply share1_3 (fun (t : Int) (bP bQ bT : Nat) (W : World) => S9 W ∧ Blk W bP #[.int .i64 p.s0, .int .i64 p.s1, (.slice aS p.S.n cS), (.slice aC p.C.n cC), .int .i64 p.ne, .int .i64 p.ed, .int .i64 p.gr, .int .i64 p.lo, .int .i64 p.hi, .int .i64 p.sh, .int .i64 p.wi, .int .i64 p2.s0, .int .i64 p2.s1, (.slice aO p2.S.n cO), (.slice aQ p2.C.n cQ), .int .i64 p2.ne, .int .i64 p2.ed, .int .i64 p2.gr, .int .i64 p2.lo, .int .i64 p2.hi, .int .i64 p2.sh, .int .i64 p2.wi, .int .i64 p2.s0, .int .i64 p2.s1, (.slice aO p2.S.n cO), (.slice aQ p2.C.n cQ), .int .i64 p2.ne, .int .i64 p2.ed, .int .i64 p2.gr, .int .i64 p2.lo, .int .i64 p2.hi, .int .i64 p2.sh, .int .i64 p2.wi] 26 ∧ Blk W bQ #[.int .i64 a, .int .i64 b, .int .i64 lo, .int .i64 hi, .int .i64 a, .int .i64 b] 23 ∧ Blk W bT #[.int .i64 v, .int .i64 t, .int .i64 v] 3 ∧ (bs < bP) ∧ (bs < bQ) ∧ (bs < bT) ∧ (bP ≠ bQ) ∧ (bP ≠ bT) ∧ (bQ ≠ bT))
          {
          intro X1_013
          apply share1_3 (fun (t : Int) (bP bR bT : Nat) (W : World) => S9 W ∧ Blk W bP #[.int .i64 p.s0, .int .i64 p.s1, (.slice aS p.S.n cS), (.slice aC p.C.n cC), .int .i64 p.ne, .int .i64 p.ed, .int .i64 p.gr, .int .i64 p.lo, .int .i64 p.hi, .int .i64 p.sh, .int .i64 p.wi, .int .i64 p2.s0, .int .i64 p2.s1, (.slice aO p2.S.n cO), (.slice aQ p2.C.n cQ), .int .i64 p2.ne, .int .i64 p2.ed, .int .i64 p2.gr, .int .i64 p2.lo, .int .i64 p2.hi, .int .i64 p2.sh, .int .i64 p2.wi, .int .i64 p2.s0, .int .i64 p2.s1, (.slice aO p2.S.n cO), (.slice aQ p2.C.n cQ), .int .i64 p2.ne, .int .i64 p2.ed, .int .i64 p2.gr, .int .i64 p2.lo, .int .i64 p2.hi, .int .i64 p2.sh, .int .i64 p2.wi] 26 ∧ Blk W bR #[.int .i64 sh, .int .i64 nr, .int .i64 sh] 3 ∧ Blk W bT #[.int .i64 v, .int .i64 t, .int .i64 v] 3 ∧ (bs < bP) ∧ (bs < bR) ∧ (bs < bT) ∧ (bP ≠ bR) ∧ (bP ≠ bT) ∧ (bR ≠ bT))
          {
          intro X1_023
          apply share1_3 (fun (t : Int) (bQ bR bT : Nat) (W : World) => S9 W ∧ Blk W bQ #[.int .i64 a, .int .i64 b, .int .i64 lo, .int .i64 hi, .int .i64 a, .int .i64 b] 23 ∧ Blk W bR #[.int .i64 sh, .int .i64 nr, .int .i64 sh] 3 ∧ Blk W bT #[.int .i64 v, .int .i64 t, .int .i64 v] 3 ∧ (bs < bQ) ∧ (bs < bR) ∧ (bs < bT) ∧ (bQ ≠ bR) ∧ (bQ ≠ bT) ∧ (bR ≠ bT))
          {
          intro X1_123
          apply share0_3 (fun (bP bQ bR : Nat) (W : World) => S9 W ∧ Blk W bP #[.int .i64 p.s0, .int .i64 p.s1, (.slice aS p.S.n cS), (.slice aC p.C.n cC), .int .i64 p.ne, .int .i64 p.ed, .int .i64 p.gr, .int .i64 p.lo, .int .i64 p.hi, .int .i64 p.sh, .int .i64 p.wi, .int .i64 p2.s0, .int .i64 p2.s1, (.slice aO p2.S.n cO), (.slice aQ p2.C.n cQ), .int .i64 p2.ne, .int .i64 p2.ed, .int .i64 p2.gr, .int .i64 p2.lo, .int .i64 p2.hi, .int .i64 p2.sh, .int .i64 p2.wi, .int .i64 p2.s0, .int .i64 p2.s1, (.slice aO p2.S.n cO), (.slice aQ p2.C.n cQ), .int .i64 p2.ne, .int .i64 p2.ed, .int .i64 p2.gr, .int .i64 p2.lo, .int .i64 p2.hi, .int .i64 p2.sh, .int .i64 p2.wi] 26 ∧ Blk W bQ #[.int .i64 a, .int .i64 b, .int .i64 lo, .int .i64 hi, .int .i64 a, .int .i64 b] 23 ∧ Blk W bR #[.int .i64 sh, .int .i64 nr, .int .i64 sh] 3 ∧ (bs < bP) ∧ (bs < bQ) ∧ (bs < bR) ∧ (bP ≠ bQ) ∧ (bP ≠ bR) ∧ (bQ ≠ bR))
          {
          intro X0_012
          apply share1_2 (fun (t : Int) (bP bQ : Nat) (W : World) => S9 W ∧ Blk W bP #[.int .i64 p.s0, .int .i64 p.s1, (.slice aS p.S.n cS), (.slice aC p.C.n cC), .int .i64 p.ne, .int .i64 p.ed, .int .i64 p.gr, .int .i64 p.lo, .int .i64 p.hi, .int .i64 p.sh, .int .i64 p.wi, .int .i64 p2.s0, .int .i64 p2.s1, (.slice aO p2.S.n cO), (.slice aQ p2.C.n cQ), .int .i64 p2.ne, .int .i64 p2.ed, .int .i64 p2.gr, .int .i64 p2.lo, .int .i64 p2.hi, .int .i64 p2.sh, .int .i64 p2.wi, .int .i64 p2.s0, .int .i64 p2.s1, (.slice aO p2.S.n cO), (.slice aQ p2.C.n cQ), .int .i64 p2.ne, .int .i64 p2.ed, .int .i64 p2.gr, .int .i64 p2.lo, .int .i64 p2.hi, .int .i64 p2.sh, .int .i64 p2.wi] 26 ∧ Blk W bQ #[.int .i64 a, .int .i64 b, .int .i64 lo, .int .i64 hi, .int .i64 a, .int .i64 b] 23 ∧ (bs < bP) ∧ (bs < bQ) ∧ (bP ≠ bQ))
          {
          intro X1_01
          apply share1_2 (fun (t : Int) (bP bR : Nat) (W : World) => S9 W ∧ Blk W bP #[.int .i64 p.s0, .int .i64 p.s1, (.slice aS p.S.n cS), (.slice aC p.C.n cC), .int .i64 p.ne, .int .i64 p.ed, .int .i64 p.gr, .int .i64 p.lo, .int .i64 p.hi, .int .i64 p.sh, .int .i64 p.wi, .int .i64 p2.s0, .int .i64 p2.s1, (.slice aO p2.S.n cO), (.slice aQ p2.C.n cQ), .int .i64 p2.ne, .int .i64 p2.ed, .int .i64 p2.gr, .int .i64 p2.lo, .int .i64 p2.hi, .int .i64 p2.sh, .int .i64 p2.wi, .int .i64 p2.s0, .int .i64 p2.s1, (.slice aO p2.S.n cO), (.slice aQ p2.C.n cQ), .int .i64 p2.ne, .int .i64 p2.ed, .int .i64 p2.gr, .int .i64 p2.lo, .int .i64 p2.hi, .int .i64 p2.sh, .int .i64 p2.wi] 26 ∧ Blk W bR #[.int .i64 sh, .int .i64 nr, .int .i64 sh] 3 ∧ (bs < bP) ∧ (bs < bR) ∧ (bP ≠ bR))
          {
          intro X1_02
          apply share1_2 (fun (t : Int) (bP bT : Nat) (W : World) => S9 W ∧ Blk W bP #[.int .i64 p.s0, .int .i64 p.s1, (.slice aS p.S.n cS), (.slice aC p.C.n cC), .int .i64 p.ne, .int .i64 p.ed, .int .i64 p.gr, .int .i64 p.lo, .int .i64 p.hi, .int .i64 p.sh, .int .i64 p.wi, .int .i64 p2.s0, .int .i64 p2.s1, (.slice aO p2.S.n cO), (.slice aQ p2.C.n cQ), .int .i64 p2.ne, .int .i64 p2.ed, .int .i64 p2.gr, .int .i64 p2.lo, .int .i64 p2.hi, .int .i64 p2.sh, .int .i64 p2.wi, .int .i64 p2.s0, .int .i64 p2.s1, (.slice aO p2.S.n cO), (.slice aQ p2.C.n cQ), .int .i64 p2.ne, .int .i64 p2.ed, .int .i64 p2.gr, .int .i64 p2.lo, .int .i64 p2.hi, .int .i64 p2.sh, .int .i64 p2.wi] 26 ∧ Blk W bT #[.int .i64 v, .int .i64 t, .int .i64 v] 3 ∧ (bs < bP) ∧ (bs < bT) ∧ (bP ≠ bT))
          {
          intro X1_03
          apply share1_2 (fun (t : Int) (bQ bR : Nat) (W : World) => S9 W ∧ Blk W bQ #[.int .i64 a, .int .i64 b, .int .i64 lo, .int .i64 hi, .int .i64 a, .int .i64 b] 23 ∧ Blk W bR #[.int .i64 sh, .int .i64 nr, .int .i64 sh] 3 ∧ (bs < bQ) ∧ (bs < bR) ∧ (bQ ≠ bR))
          {
          intro X1_12
          apply share1_2 (fun (t : Int) (bQ bT : Nat) (W : World) => S9 W ∧ Blk W bQ #[.int .i64 a, .int .i64 b, .int .i64 lo, .int .i64 hi, .int .i64 a, .int .i64 b] 23 ∧ Blk W bT #[.int .i64 v, .int .i64 t, .int .i64 v] 3 ∧ (bs < bQ) ∧ (bs < bT) ∧ (bQ ≠ bT))
          {
          intro X1_13
          apply share1_2 (fun (t : Int) (bR bT : Nat) (W : World) => S9 W ∧ Blk W bR #[.int .i64 sh, .int .i64 nr, .int .i64 sh] 3 ∧ Blk W bT #[.int .i64 v, .int .i64 t, .int .i64 v] 3 ∧ (bs < bR) ∧ (bs < bT) ∧ (bR ≠ bT))
          {
          intro X1_23
          apply share0_2 (fun (bP bQ : Nat) (W : World) => S9 W ∧ Blk W bP #[.int .i64 p.s0, .int .i64 p.s1, (.slice aS p.S.n cS), (.slice aC p.C.n cC), .int .i64 p.ne, .int .i64 p.ed, .int .i64 p.gr, .int .i64 p.lo, .int .i64 p.hi, .int .i64 p.sh, .int .i64 p.wi, .int .i64 p2.s0, .int .i64 p2.s1, (.slice aO p2.S.n cO), (.slice aQ p2.C.n cQ), .int .i64 p2.ne, .int .i64 p2.ed, .int .i64 p2.gr, .int .i64 p2.lo, .int .i64 p2.hi, .int .i64 p2.sh, .int .i64 p2.wi, .int .i64 p2.s0, .int .i64 p2.s1, (.slice aO p2.S.n cO), (.slice aQ p2.C.n cQ), .int .i64 p2.ne, .int .i64 p2.ed, .int .i64 p2.gr, .int .i64 p2.lo, .int .i64 p2.hi, .int .i64 p2.sh, .int .i64 p2.wi] 26 ∧ Blk W bQ #[.int .i64 a, .int .i64 b, .int .i64 lo, .int .i64 hi, .int .i64 a, .int .i64 b] 23 ∧ (bs < bP) ∧ (bs < bQ) ∧ (bP ≠ bQ))
          {
          intro X0_01
          apply share0_2 (fun (bP bR : Nat) (W : World) => S9 W ∧ Blk W bP #[.int .i64 p.s0, .int .i64 p.s1, (.slice aS p.S.n cS), (.slice aC p.C.n cC), .int .i64 p.ne, .int .i64 p.ed, .int .i64 p.gr, .int .i64 p.lo, .int .i64 p.hi, .int .i64 p.sh, .int .i64 p.wi, .int .i64 p2.s0, .int .i64 p2.s1, (.slice aO p2.S.n cO), (.slice aQ p2.C.n cQ), .int .i64 p2.ne, .int .i64 p2.ed, .int .i64 p2.gr, .int .i64 p2.lo, .int .i64 p2.hi, .int .i64 p2.sh, .int .i64 p2.wi, .int .i64 p2.s0, .int .i64 p2.s1, (.slice aO p2.S.n cO), (.slice aQ p2.C.n cQ), .int .i64 p2.ne, .int .i64 p2.ed, .int .i64 p2.gr, .int .i64 p2.lo, .int .i64 p2.hi, .int .i64 p2.sh, .int .i64 p2.wi] 26 ∧ Blk W bR #[.int .i64 sh, .int .i64 nr, .int .i64 sh] 3 ∧ (bs < bP) ∧ (bs < bR) ∧ (bP ≠ bR))
          {
          intro X0_02
          apply share0_2 (fun (bQ bR : Nat) (W : World) => S9 W ∧ Blk W bQ #[.int .i64 a, .int .i64 b, .int .i64 lo, .int .i64 hi, .int .i64 a, .int .i64 b] 23 ∧ Blk W bR #[.int .i64 sh, .int .i64 nr, .int .i64 sh] 3 ∧ (bs < bQ) ∧ (bs < bR) ∧ (bQ ≠ bR))
          {
          intro X0_12
          apply share1_1 (fun (t : Int) (bP : Nat) (W : World) => S9 W ∧ Blk W bP #[.int .i64 p.s0, .int .i64 p.s1, (.slice aS p.S.n cS), (.slice aC p.C.n cC), .int .i64 p.ne, .int .i64 p.ed, .int .i64 p.gr, .int .i64 p.lo, .int .i64 p.hi, .int .i64 p.sh, .int .i64 p.wi, .int .i64 p2.s0, .int .i64 p2.s1, (.slice aO p2.S.n cO), (.slice aQ p2.C.n cQ), .int .i64 p2.ne, .int .i64 p2.ed, .int .i64 p2.gr, .int .i64 p2.lo, .int .i64 p2.hi, .int .i64 p2.sh, .int .i64 p2.wi, .int .i64 p2.s0, .int .i64 p2.s1, (.slice aO p2.S.n cO), (.slice aQ p2.C.n cQ), .int .i64 p2.ne, .int .i64 p2.ed, .int .i64 p2.gr, .int .i64 p2.lo, .int .i64 p2.hi, .int .i64 p2.sh, .int .i64 p2.wi] 26 ∧ (bs < bP))
          {
          intro X1_0
          apply share1_1 (fun (t : Int) (bQ : Nat) (W : World) => S9 W ∧ Blk W bQ #[.int .i64 a, .int .i64 b, .int .i64 lo, .int .i64 hi, .int .i64 a, .int .i64 b] 23 ∧ (bs < bQ))
          {
          intro X1_1
          apply share1_1 (fun (t : Int) (bR : Nat) (W : World) => S9 W ∧ Blk W bR #[.int .i64 sh, .int .i64 nr, .int .i64 sh] 3 ∧ (bs < bR))
          {
          intro X1_2
          apply share1_1 (fun (t : Int) (bT : Nat) (W : World) => S9 W ∧ Blk W bT #[.int .i64 v, .int .i64 t, .int .i64 v] 3 ∧ (bs < bT))
          {
          intro X1_3
          apply share0_1 (fun (bP : Nat) (W : World) => S9 W ∧ Blk W bP #[.int .i64 p.s0, .int .i64 p.s1, (.slice aS p.S.n cS), (.slice aC p.C.n cC), .int .i64 p.ne, .int .i64 p.ed, .int .i64 p.gr, .int .i64 p.lo, .int .i64 p.hi, .int .i64 p.sh, .int .i64 p.wi, .int .i64 p2.s0, .int .i64 p2.s1, (.slice aO p2.S.n cO), (.slice aQ p2.C.n cQ), .int .i64 p2.ne, .int .i64 p2.ed, .int .i64 p2.gr, .int .i64 p2.lo, .int .i64 p2.hi, .int .i64 p2.sh, .int .i64 p2.wi, .int .i64 p2.s0, .int .i64 p2.s1, (.slice aO p2.S.n cO), (.slice aQ p2.C.n cQ), .int .i64 p2.ne, .int .i64 p2.ed, .int .i64 p2.gr, .int .i64 p2.lo, .int .i64 p2.hi, .int .i64 p2.sh, .int .i64 p2.wi] 26 ∧ (bs < bP))
          {
          intro X0_0
          apply share0_1 (fun (bQ : Nat) (W : World) => S9 W ∧ Blk W bQ #[.int .i64 a, .int .i64 b, .int .i64 lo, .int .i64 hi, .int .i64 a, .int .i64 b] 23 ∧ (bs < bQ))
          {
          intro X0_1
          apply share0_1 (fun (bR : Nat) (W : World) => S9 W ∧ Blk W bR #[.int .i64 sh, .int .i64 nr, .int .i64 sh] 3 ∧ (bs < bR))
          {
          intro X0_2
          refine tkY 0 (some 85) ?_ ?_ ?_
          rotate_left
          · intro w hS0; (try dsimp only at hS0); obtain ⟨k1, k2, k3, k4, _⟩ := hS0; obtain ⟨c0, c1, c2, c3, c4, c5, c6, c7, c8, c9, c10⟩ := k1.c11; obtain ⟨d0, d1, d2, d3, d4, d5, d6, d7, d8, d9, d10⟩ := k3.c11; obtain ⟨i0, i1⟩ := k2.c2; obtain ⟨x0, x1⟩ := k4.c2; have y1 := k1.lt; have y2 := k2.lt; have y3 := k3.lt; have y4 := k4.lt;go_simp; (try with_reducible rfl)
          (try simp only [cq])
          refine tkY 1 (some 86) ?_ ?_ ?_
          rotate_left
          · intro w hS0; (try dsimp only at hS0); obtain ⟨k1, k2, k3, k4, _⟩ := hS0; obtain ⟨c0, c1, c2, c3, c4, c5, c6, c7, c8, c9, c10⟩ := k1.c11; obtain ⟨d0, d1, d2, d3, d4, d5, d6, d7, d8, d9, d10⟩ := k3.c11; obtain ⟨i0, i1⟩ := k2.c2; obtain ⟨x0, x1⟩ := k4.c2; have y1 := k1.lt; have y2 := k2.lt; have y3 := k3.lt; have y4 := k4.lt;go_simp; (try with_reducible rfl)
          (try simp only [cq])
          refine tkY 2 (some 87) ?_ ?_ ?_
          rotate_left
          · intro w hS0; (try dsimp only at hS0); obtain ⟨k1, k2, k3, k4, _⟩ := hS0; obtain ⟨c0, c1, c2, c3, c4, c5, c6, c7, c8, c9, c10⟩ := k1.c11; obtain ⟨d0, d1, d2, d3, d4, d5, d6, d7, d8, d9, d10⟩ := k3.c11; obtain ⟨i0, i1⟩ := k2.c2; obtain ⟨x0, x1⟩ := k4.c2; have y1 := k1.lt; have y2 := k2.lt; have y3 := k3.lt; have y4 := k4.lt;go_simp; (try with_reducible rfl)
          (try simp only [cq])
          refine tkY 4 (some 89) ?_ ?_ ?_
          rotate_left
          · intro w hS0; (try dsimp only at hS0); obtain ⟨k1, k2, k3, k4, _⟩ := hS0; obtain ⟨c0, c1, c2, c3, c4, c5, c6, c7, c8, c9, c10⟩ := k1.c11; obtain ⟨d0, d1, d2, d3, d4, d5, d6, d7, d8, d9, d10⟩ := k3.c11; obtain ⟨i0, i1⟩ := k2.c2; obtain ⟨x0, x1⟩ := k4.c2; have y1 := k1.lt; have y2 := k2.lt; have y3 := k3.lt; have y4 := k4.lt;go_simp; (try with_reducible rfl)
          (try simp only [cq])
          refine tkY 5 (some 90) ?_ ?_ ?_
          rotate_left
          · intro w hS0; (try dsimp only at hS0); obtain ⟨k1, k2, k3, k4, _⟩ := hS0; obtain ⟨c0, c1, c2, c3, c4, c5, c6, c7, c8, c9, c10⟩ := k1.c11; obtain ⟨d0, d1, d2, d3, d4, d5, d6, d7, d8, d9, d10⟩ := k3.c11; obtain ⟨i0, i1⟩ := k2.c2; obtain ⟨x0, x1⟩ := k4.c2; have y1 := k1.lt; have y2 := k2.lt; have y3 := k3.lt; have y4 := k4.lt;go_simp; (try with_reducible rfl)
          (try simp only [cq])
          refine tkY 6 (some 91) ?_ ?_ ?_
          rotate_left
          · intro w hS0; (try dsimp only at hS0); obtain ⟨k1, k2, k3, k4, _⟩ := hS0; obtain ⟨c0, c1, c2, c3, c4, c5, c6, c7, c8, c9, c10⟩ := k1.c11; obtain ⟨d0, d1, d2, d3, d4, d5, d6, d7, d8, d9, d10⟩ := k3.c11; obtain ⟨i0, i1⟩ := k2.c2; obtain ⟨x0, x1⟩ := k4.c2; have y1 := k1.lt; have y2 := k2.lt; have y3 := k3.lt; have y4 := k4.lt;go_simp; (try with_reducible rfl)
          (try simp only [cq])
          refine tkY 8 (some 93) ?_ ?_ ?_
          rotate_left
          · intro w _; go_simp; (try with_reducible rfl)
          (try simp only [cq])
          refine tkY 9 (some 94) ?_ ?_ ?_
          rotate_left
          · intro w _; go_simp; (try with_reducible rfl)
          (try simp only [cq])
          refine tkY 10 (some 95) ?_ ?_ ?_
          rotate_left
          · intro w _; go_simp; (try with_reducible rfl)
          (try simp only [cq])
          refine tkY 12 (some 97) ?_ ?_ ?_
          rotate_left
          · intro w _; go_simp; (try with_reducible rfl)
          (try simp only [cq])
          refine tkY 13 (some 98) ?_ ?_ ?_
          rotate_left
          · intro w _; go_simp; (try with_reducible rfl)
          (try simp only [cq])
          refine tkY 15 (some 100) ?_ ?_ ?_
          rotate_left
          · intro w _; go_simp; (try with_reducible rfl)
          (try simp only [cq])
          refine wpAnyH_ready (rs := [3, 7, 11, 14]) (by kernel_rfl) (by simp) ?_
          refine arc (some 88) (fun K hK => ?_) ?_
          {
          have hNbP1 := hH.2.2.2.2.2.2.1.choose_spec.lt
          go_simp
          first | refine oA hK ?_ (fun hH hA => ?_) | refine oD hK ?_ (fun hH hA => ?_)
          · exact ⟨hH.1.alloc _, hH.2.1.alloc _, hH.2.2.1.alloc _, hH.2.2.2.1.alloc _, hH.2.2.2.2.1.alloc _, hH.2.2.2.2.2.1.alloc _, hH.2.2.2.2.2.2.1.imp fun _ h => h.alloc _, bwA (hH.2.2.2.2.2.2.2) (Nat.le_refl _) _⟩
          clear hK K
          (try simp only [cq])
          obtain ⟨bP, hbA⟩ : ∃ b, Blk.num hA = b := ⟨_, rfl⟩
          obtain ⟨W, hW⟩ : ∃ V, Blk.wld hA = V := ⟨_, rfl⟩
          simp only [Blk.num] at hbA
          simp only [Blk.wld] at hW
          rw [hW] at hH hA ⊢
          rw [hbA] at hA ⊢
          replace hNbP1 : bs < bP := (by rw [← hbA]; exact hNbP1)
          clear hW hbA
          have hAbP := hA
          clear hA
          exact X0_0 bP W ⟨hH, hAbP, hNbP1⟩
          }
          refine arc (some 92) (fun K hK => ?_) ?_
          {
          have hNbQ1 := hH.2.2.2.2.2.2.1.choose_spec.lt
          go_simp
          first | refine oA hK ?_ (fun hH hA => ?_) | refine oD hK ?_ (fun hH hA => ?_)
          · exact ⟨hH.1.alloc _, hH.2.1.alloc _, hH.2.2.1.alloc _, hH.2.2.2.1.alloc _, hH.2.2.2.2.1.alloc _, hH.2.2.2.2.2.1.alloc _, hH.2.2.2.2.2.2.1.imp fun _ h => h.alloc _, bwA (hH.2.2.2.2.2.2.2) (Nat.le_refl _) _⟩
          clear hK K
          (try simp only [cq])
          obtain ⟨bQ, hbA⟩ : ∃ b, Blk.num hA = b := ⟨_, rfl⟩
          obtain ⟨W, hW⟩ : ∃ V, Blk.wld hA = V := ⟨_, rfl⟩
          simp only [Blk.num] at hbA
          simp only [Blk.wld] at hW
          rw [hW] at hH hA ⊢
          rw [hbA] at hA ⊢
          replace hNbQ1 : bs < bQ := (by rw [← hbA]; exact hNbQ1)
          clear hW hbA
          have hAbQ := hA
          clear hA
          exact X0_1 bQ W ⟨hH, hAbQ, hNbQ1⟩
          }
          refine arc (some 96) (fun K hK => ?_) ?_
          {
          have hNbR1 := hH.2.2.2.2.2.2.1.choose_spec.lt
          go_simp
          first | refine oA hK ?_ (fun hH hA => ?_) | refine oD hK ?_ (fun hH hA => ?_)
          · exact ⟨hH.1.alloc _, hH.2.1.alloc _, hH.2.2.1.alloc _, hH.2.2.2.1.alloc _, hH.2.2.2.2.1.alloc _, hH.2.2.2.2.2.1.alloc _, hH.2.2.2.2.2.2.1.imp fun _ h => h.alloc _, bwA (hH.2.2.2.2.2.2.2) (Nat.le_refl _) _⟩
          clear hK K
          (try simp only [cq])
          obtain ⟨bR, hbA⟩ : ∃ b, Blk.num hA = b := ⟨_, rfl⟩
          obtain ⟨W, hW⟩ : ∃ V, Blk.wld hA = V := ⟨_, rfl⟩
          simp only [Blk.num] at hbA
          simp only [Blk.wld] at hW
          rw [hW] at hH hA ⊢
          rw [hbA] at hA ⊢
          replace hNbR1 : bs < bR := (by rw [← hbA]; exact hNbR1)
          clear hW hbA
          have hAbR := hA
          clear hA
          exact X0_2 bR W ⟨hH, hAbR, hNbR1⟩
          }
          refine arc (some 99) (fun K hK => ?_) ?_
          {
          go_simp
          (refine (from_in 0 1000 bs _ hH.2.2.2.2.2.2.1 (by decide) (by decide) (by decide) (by decide)).mono ?_; rintro e w' ⟨t, rfl, _, _, hd⟩)
          refine hK.out _ _ ?_ ?_
          · (exact ⟨hd.blk hH.1 (by omega), hd.blk hH.2.1 (by omega), hd.blk hH.2.2.1 (by omega), hd.blk hH.2.2.2.1 (by omega), hd.row hH.2.2.2.2.1 (by omega), hd.row hH.2.2.2.2.2.1 (by omega), hd.seed, Drawn.below hH.2.2.2.2.2.2.2 hd zwbs⟩)
          (try clear hH); (try clear hd)
          intro hH
          clear hK K
          (try simp only [cq])
          refine wpAnyH_ready (rs := [3, 7, 11, 16]) (by kernel_rfl) (by simp) ?_
          refine arc (some 88) (fun K hK => ?_) ?_
          {
          have hNbP1 := hH.2.2.2.2.2.2.1.choose_spec.lt
          go_simp
          first | refine oA hK ?_ (fun hH hA => ?_) | refine oD hK ?_ (fun hH hA => ?_)
          · exact ⟨hH.1.alloc _, hH.2.1.alloc _, hH.2.2.1.alloc _, hH.2.2.2.1.alloc _, hH.2.2.2.2.1.alloc _, hH.2.2.2.2.2.1.alloc _, hH.2.2.2.2.2.2.1.imp fun _ h => h.alloc _, bwA (hH.2.2.2.2.2.2.2) (Nat.le_refl _) _⟩
          clear hK K
          (try simp only [cq])
          obtain ⟨bP, hbA⟩ : ∃ b, Blk.num hA = b := ⟨_, rfl⟩
          obtain ⟨W, hW⟩ : ∃ V, Blk.wld hA = V := ⟨_, rfl⟩
          simp only [Blk.num] at hbA
          simp only [Blk.wld] at hW
          rw [hW] at hH hA ⊢
          rw [hbA] at hA ⊢
          replace hNbP1 : bs < bP := (by rw [← hbA]; exact hNbP1)
          clear hW hbA
          have hAbP := hA
          clear hA
          refine tkY 17 (some 16) ?_ ?_ ?_
          rotate_left
          · intro w _; go_simp; (try with_reducible rfl)
          (try simp only [cq])
          exact X1_0 t bP W ⟨hH, hAbP, hNbP1⟩
          }
          refine arc (some 92) (fun K hK => ?_) ?_
          {
          have hNbQ1 := hH.2.2.2.2.2.2.1.choose_spec.lt
          go_simp
          first | refine oA hK ?_ (fun hH hA => ?_) | refine oD hK ?_ (fun hH hA => ?_)
          · exact ⟨hH.1.alloc _, hH.2.1.alloc _, hH.2.2.1.alloc _, hH.2.2.2.1.alloc _, hH.2.2.2.2.1.alloc _, hH.2.2.2.2.2.1.alloc _, hH.2.2.2.2.2.2.1.imp fun _ h => h.alloc _, bwA (hH.2.2.2.2.2.2.2) (Nat.le_refl _) _⟩
          clear hK K
          (try simp only [cq])
          obtain ⟨bQ, hbA⟩ : ∃ b, Blk.num hA = b := ⟨_, rfl⟩
          obtain ⟨W, hW⟩ : ∃ V, Blk.wld hA = V := ⟨_, rfl⟩
          simp only [Blk.num] at hbA
          simp only [Blk.wld] at hW
          rw [hW] at hH hA ⊢
          rw [hbA] at hA ⊢
          replace hNbQ1 : bs < bQ := (by rw [← hbA]; exact hNbQ1)
          clear hW hbA
          have hAbQ := hA
          clear hA
          exact X1_1 t bQ W ⟨hH, hAbQ, hNbQ1⟩
          }
          refine arc (some 96) (fun K hK => ?_) ?_
          {
          have hNbR1 := hH.2.2.2.2.2.2.1.choose_spec.lt
          go_simp
          first | refine oA hK ?_ (fun hH hA => ?_) | refine oD hK ?_ (fun hH hA => ?_)
          · exact ⟨hH.1.alloc _, hH.2.1.alloc _, hH.2.2.1.alloc _, hH.2.2.2.1.alloc _, hH.2.2.2.2.1.alloc _, hH.2.2.2.2.2.1.alloc _, hH.2.2.2.2.2.2.1.imp fun _ h => h.alloc _, bwA (hH.2.2.2.2.2.2.2) (Nat.le_refl _) _⟩
          clear hK K
          (try simp only [cq])
          obtain ⟨bR, hbA⟩ : ∃ b, Blk.num hA = b := ⟨_, rfl⟩
          obtain ⟨W, hW⟩ : ∃ V, Blk.wld hA = V := ⟨_, rfl⟩
          simp only [Blk.num] at hbA
          simp only [Blk.wld] at hW
          rw [hW] at hH hA ⊢
          rw [hbA] at hA ⊢
          replace hNbR1 : bs < bR := (by rw [← hbA]; exact hNbR1)
          clear hW hbA
          have hAbR := hA
          clear hA
          exact X1_2 t bR W ⟨hH, hAbR, hNbR1⟩
          }
          refine arc (some 101) (fun K hK => ?_) ?_
          {
          have hNbT1 := hH.2.2.2.2.2.2.1.choose_spec.lt
          go_simp
          first | refine oA hK ?_ (fun hH hA => ?_) | refine oD hK ?_ (fun hH hA => ?_)
          · exact ⟨hH.1.alloc _, hH.2.1.alloc _, hH.2.2.1.alloc _, hH.2.2.2.1.alloc _, hH.2.2.2.2.1.alloc _, hH.2.2.2.2.2.1.alloc _, hH.2.2.2.2.2.2.1.imp fun _ h => h.alloc _, bwA (hH.2.2.2.2.2.2.2) (Nat.le_refl _) _⟩
          clear hK K
          (try simp only [cq])
          obtain ⟨bT, hbA⟩ : ∃ b, Blk.num hA = b := ⟨_, rfl⟩
          obtain ⟨W, hW⟩ : ∃ V, Blk.wld hA = V := ⟨_, rfl⟩
          simp only [Blk.num] at hbA
          simp only [Blk.wld] at hW
          rw [hW] at hH hA ⊢
          rw [hbA] at hA ⊢
          replace hNbT1 : bs < bT := (by rw [← hbA]; exact hNbT1)
          clear hW hbA
          have hAbT := hA
          clear hA
          exact X1_3 t bT W ⟨hH, hAbT, hNbT1⟩
          }
          exact AllReadyH.nil
          }
          exact AllReadyH.nil
          }
          {
          intro bR W hall
          obtain ⟨hH, hAbR, hNbR1⟩ := hall
          (try dsimp only at hH)
          refine wpAnyH_ready (rs := [3, 7, 14]) (by kernel_rfl) (by simp) ?_
          refine arc (some 88) (fun K hK => ?_) ?_
          {
          have hNbP1 := hH.2.2.2.2.2.2.1.choose_spec.lt
          have zzbR := hAbR.lt
          go_simp
          first | refine oA hK ?_ (fun hH hA => ?_) | refine oD hK ?_ (fun hH hA => ?_)
          · exact ⟨hH.1.alloc _, hH.2.1.alloc _, hH.2.2.1.alloc _, hH.2.2.2.1.alloc _, hH.2.2.2.2.1.alloc _, hH.2.2.2.2.2.1.alloc _, hH.2.2.2.2.2.2.1.imp fun _ h => h.alloc _, bwA (hH.2.2.2.2.2.2.2) (Nat.le_refl _) _⟩
          clear hK K
          (try simp only [cq])
          obtain ⟨bP, hbA⟩ : ∃ b, Blk.num hA = b := ⟨_, rfl⟩
          obtain ⟨W, hW⟩ : ∃ V, Blk.wld hA = V := ⟨_, rfl⟩
          simp only [Blk.num] at hbA
          simp only [Blk.wld] at hW
          first | replace hAbR := awB hW hAbR | replace hAbR := awD hW hAbR
          rw [hW] at hH hA ⊢
          rw [hbA] at hA ⊢
          replace hNbP1 : bs < bP := (by rw [← hbA]; exact hNbP1)
          have hPbPbR : bP ≠ bR := (by (try simp only [World.drew] at zzbR hbA); omega)
          clear hW hbA zzbR
          have hAbP := hA
          clear hA
          exact X0_02 bP bR W ⟨hH, hAbP, hAbR, hNbP1, hNbR1, hPbPbR⟩
          }
          refine arc (some 92) (fun K hK => ?_) ?_
          {
          have hNbQ1 := hH.2.2.2.2.2.2.1.choose_spec.lt
          have zzbR := hAbR.lt
          go_simp
          first | refine oA hK ?_ (fun hH hA => ?_) | refine oD hK ?_ (fun hH hA => ?_)
          · exact ⟨hH.1.alloc _, hH.2.1.alloc _, hH.2.2.1.alloc _, hH.2.2.2.1.alloc _, hH.2.2.2.2.1.alloc _, hH.2.2.2.2.2.1.alloc _, hH.2.2.2.2.2.2.1.imp fun _ h => h.alloc _, bwA (hH.2.2.2.2.2.2.2) (Nat.le_refl _) _⟩
          clear hK K
          (try simp only [cq])
          obtain ⟨bQ, hbA⟩ : ∃ b, Blk.num hA = b := ⟨_, rfl⟩
          obtain ⟨W, hW⟩ : ∃ V, Blk.wld hA = V := ⟨_, rfl⟩
          simp only [Blk.num] at hbA
          simp only [Blk.wld] at hW
          first | replace hAbR := awB hW hAbR | replace hAbR := awD hW hAbR
          rw [hW] at hH hA ⊢
          rw [hbA] at hA ⊢
          replace hNbQ1 : bs < bQ := (by rw [← hbA]; exact hNbQ1)
          have hPbQbR : bQ ≠ bR := (by (try simp only [World.drew] at zzbR hbA); omega)
          clear hW hbA zzbR
          have hAbQ := hA
          clear hA
          exact X0_12 bQ bR W ⟨hH, hAbQ, hAbR, hNbQ1, hNbR1, hPbQbR⟩
          }
          refine arc (some 99) (fun K hK => ?_) ?_
          {
          go_simp
          (refine (from_in 0 1000 bs _ hH.2.2.2.2.2.2.1 (by decide) (by decide) (by decide) (by decide)).mono ?_; rintro e w' ⟨t, rfl, _, _, hd⟩)
          (replace hAbR := hd.blk hAbR (by omega))
          refine hK.out _ _ ?_ ?_
          · (exact ⟨hd.blk hH.1 (by omega), hd.blk hH.2.1 (by omega), hd.blk hH.2.2.1 (by omega), hd.blk hH.2.2.2.1 (by omega), hd.row hH.2.2.2.2.1 (by omega), hd.row hH.2.2.2.2.2.1 (by omega), hd.seed, Drawn.below hH.2.2.2.2.2.2.2 hd zwbs⟩)
          (try clear hH); (try clear hd)
          intro hH
          clear hK K
          (try simp only [cq])
          exact X1_2 t bR w' ⟨hH, hAbR, hNbR1⟩
          }
          exact AllReadyH.nil
          }
          }
          {
          intro bQ W hall
          obtain ⟨hH, hAbQ, hNbQ1⟩ := hall
          (try dsimp only at hH)
          refine wpAnyH_ready (rs := [3, 11, 14]) (by kernel_rfl) (by simp) ?_
          refine arc (some 88) (fun K hK => ?_) ?_
          {
          have hNbP1 := hH.2.2.2.2.2.2.1.choose_spec.lt
          have zzbQ := hAbQ.lt
          go_simp
          first | refine oA hK ?_ (fun hH hA => ?_) | refine oD hK ?_ (fun hH hA => ?_)
          · exact ⟨hH.1.alloc _, hH.2.1.alloc _, hH.2.2.1.alloc _, hH.2.2.2.1.alloc _, hH.2.2.2.2.1.alloc _, hH.2.2.2.2.2.1.alloc _, hH.2.2.2.2.2.2.1.imp fun _ h => h.alloc _, bwA (hH.2.2.2.2.2.2.2) (Nat.le_refl _) _⟩
          clear hK K
          (try simp only [cq])
          obtain ⟨bP, hbA⟩ : ∃ b, Blk.num hA = b := ⟨_, rfl⟩
          obtain ⟨W, hW⟩ : ∃ V, Blk.wld hA = V := ⟨_, rfl⟩
          simp only [Blk.num] at hbA
          simp only [Blk.wld] at hW
          first | replace hAbQ := awB hW hAbQ | replace hAbQ := awD hW hAbQ
          rw [hW] at hH hA ⊢
          rw [hbA] at hA ⊢
          replace hNbP1 : bs < bP := (by rw [← hbA]; exact hNbP1)
          have hPbPbQ : bP ≠ bQ := (by (try simp only [World.drew] at zzbQ hbA); omega)
          clear hW hbA zzbQ
          have hAbP := hA
          clear hA
          exact X0_01 bP bQ W ⟨hH, hAbP, hAbQ, hNbP1, hNbQ1, hPbPbQ⟩
          }
          refine arc (some 96) (fun K hK => ?_) ?_
          {
          have hNbR1 := hH.2.2.2.2.2.2.1.choose_spec.lt
          have zzbQ := hAbQ.lt
          go_simp
          first | refine oA hK ?_ (fun hH hA => ?_) | refine oD hK ?_ (fun hH hA => ?_)
          · exact ⟨hH.1.alloc _, hH.2.1.alloc _, hH.2.2.1.alloc _, hH.2.2.2.1.alloc _, hH.2.2.2.2.1.alloc _, hH.2.2.2.2.2.1.alloc _, hH.2.2.2.2.2.2.1.imp fun _ h => h.alloc _, bwA (hH.2.2.2.2.2.2.2) (Nat.le_refl _) _⟩
          clear hK K
          (try simp only [cq])
          obtain ⟨bR, hbA⟩ : ∃ b, Blk.num hA = b := ⟨_, rfl⟩
          obtain ⟨W, hW⟩ : ∃ V, Blk.wld hA = V := ⟨_, rfl⟩
          simp only [Blk.num] at hbA
          simp only [Blk.wld] at hW
          first | replace hAbQ := awB hW hAbQ | replace hAbQ := awD hW hAbQ
          rw [hW] at hH hA ⊢
          rw [hbA] at hA ⊢
          replace hNbR1 : bs < bR := (by rw [← hbA]; exact hNbR1)
          have hPbQbR : bQ ≠ bR := (by (try simp only [World.drew] at zzbQ hbA); omega)
          clear hW hbA zzbQ
          have hAbR := hA
          clear hA
          exact X0_12 bQ bR W ⟨hH, hAbQ, hAbR, hNbQ1, hNbR1, hPbQbR⟩
          }
          refine arc (some 99) (fun K hK => ?_) ?_
          {
          go_simp
          (refine (from_in 0 1000 bs _ hH.2.2.2.2.2.2.1 (by decide) (by decide) (by decide) (by decide)).mono ?_; rintro e w' ⟨t, rfl, _, _, hd⟩)
          (replace hAbQ := hd.blk hAbQ (by omega))
          refine hK.out _ _ ?_ ?_
          · (exact ⟨hd.blk hH.1 (by omega), hd.blk hH.2.1 (by omega), hd.blk hH.2.2.1 (by omega), hd.blk hH.2.2.2.1 (by omega), hd.row hH.2.2.2.2.1 (by omega), hd.row hH.2.2.2.2.2.1 (by omega), hd.seed, Drawn.below hH.2.2.2.2.2.2.2 hd zwbs⟩)
          (try clear hH); (try clear hd)
          intro hH
          clear hK K
          (try simp only [cq])
          exact X1_1 t bQ w' ⟨hH, hAbQ, hNbQ1⟩
          }
          exact AllReadyH.nil
          }
          }
          {
          intro bP W hall
          obtain ⟨hH, hAbP, hNbP1⟩ := hall
          (try dsimp only at hH)
          refine wpAnyH_ready (rs := [7, 11, 14]) (by kernel_rfl) (by simp) ?_
          refine arc (some 92) (fun K hK => ?_) ?_
          {
          have hNbQ1 := hH.2.2.2.2.2.2.1.choose_spec.lt
          have zzbP := hAbP.lt
          go_simp
          first | refine oA hK ?_ (fun hH hA => ?_) | refine oD hK ?_ (fun hH hA => ?_)
          · exact ⟨hH.1.alloc _, hH.2.1.alloc _, hH.2.2.1.alloc _, hH.2.2.2.1.alloc _, hH.2.2.2.2.1.alloc _, hH.2.2.2.2.2.1.alloc _, hH.2.2.2.2.2.2.1.imp fun _ h => h.alloc _, bwA (hH.2.2.2.2.2.2.2) (Nat.le_refl _) _⟩
          clear hK K
          (try simp only [cq])
          obtain ⟨bQ, hbA⟩ : ∃ b, Blk.num hA = b := ⟨_, rfl⟩
          obtain ⟨W, hW⟩ : ∃ V, Blk.wld hA = V := ⟨_, rfl⟩
          simp only [Blk.num] at hbA
          simp only [Blk.wld] at hW
          first | replace hAbP := awB hW hAbP | replace hAbP := awD hW hAbP
          rw [hW] at hH hA ⊢
          rw [hbA] at hA ⊢
          replace hNbQ1 : bs < bQ := (by rw [← hbA]; exact hNbQ1)
          have hPbPbQ : bP ≠ bQ := (by (try simp only [World.drew] at zzbP hbA); omega)
          clear hW hbA zzbP
          have hAbQ := hA
          clear hA
          exact X0_01 bP bQ W ⟨hH, hAbP, hAbQ, hNbP1, hNbQ1, hPbPbQ⟩
          }
          refine arc (some 96) (fun K hK => ?_) ?_
          {
          have hNbR1 := hH.2.2.2.2.2.2.1.choose_spec.lt
          have zzbP := hAbP.lt
          go_simp
          first | refine oA hK ?_ (fun hH hA => ?_) | refine oD hK ?_ (fun hH hA => ?_)
          · exact ⟨hH.1.alloc _, hH.2.1.alloc _, hH.2.2.1.alloc _, hH.2.2.2.1.alloc _, hH.2.2.2.2.1.alloc _, hH.2.2.2.2.2.1.alloc _, hH.2.2.2.2.2.2.1.imp fun _ h => h.alloc _, bwA (hH.2.2.2.2.2.2.2) (Nat.le_refl _) _⟩
          clear hK K
          (try simp only [cq])
          obtain ⟨bR, hbA⟩ : ∃ b, Blk.num hA = b := ⟨_, rfl⟩
          obtain ⟨W, hW⟩ : ∃ V, Blk.wld hA = V := ⟨_, rfl⟩
          simp only [Blk.num] at hbA
          simp only [Blk.wld] at hW
          first | replace hAbP := awB hW hAbP | replace hAbP := awD hW hAbP
          rw [hW] at hH hA ⊢
          rw [hbA] at hA ⊢
          replace hNbR1 : bs < bR := (by rw [← hbA]; exact hNbR1)
          have hPbPbR : bP ≠ bR := (by (try simp only [World.drew] at zzbP hbA); omega)
          clear hW hbA zzbP
          have hAbR := hA
          clear hA
          exact X0_02 bP bR W ⟨hH, hAbP, hAbR, hNbP1, hNbR1, hPbPbR⟩
          }
          refine arc (some 99) (fun K hK => ?_) ?_
          {
          go_simp
          (refine (from_in 0 1000 bs _ hH.2.2.2.2.2.2.1 (by decide) (by decide) (by decide) (by decide)).mono ?_; rintro e w' ⟨t, rfl, _, _, hd⟩)
          (replace hAbP := hd.blk hAbP (by omega))
          refine hK.out _ _ ?_ ?_
          · (exact ⟨hd.blk hH.1 (by omega), hd.blk hH.2.1 (by omega), hd.blk hH.2.2.1 (by omega), hd.blk hH.2.2.2.1 (by omega), hd.row hH.2.2.2.2.1 (by omega), hd.row hH.2.2.2.2.2.1 (by omega), hd.seed, Drawn.below hH.2.2.2.2.2.2.2 hd zwbs⟩)
          (try clear hH); (try clear hd)
          intro hH
          clear hK K
          (try simp only [cq])
          refine tkY 17 (some 16) ?_ ?_ ?_
          rotate_left
          · intro w _; go_simp; (try with_reducible rfl)
          (try simp only [cq])
          exact X1_0 t bP w' ⟨hH, hAbP, hNbP1⟩
          }
          exact AllReadyH.nil
          }
          }
          {
          intro t bT W hall
          obtain ⟨hH, hAbT, hNbT1⟩ := hall
          (try dsimp only at hH)
          refine wpAnyH_ready (rs := [3, 7, 11]) (by kernel_rfl) (by simp) ?_
          refine arc (some 88) (fun K hK => ?_) ?_
          {
          have hNbP1 := hH.2.2.2.2.2.2.1.choose_spec.lt
          have zzbT := hAbT.lt
          go_simp
          first | refine oA hK ?_ (fun hH hA => ?_) | refine oD hK ?_ (fun hH hA => ?_)
          · exact ⟨hH.1.alloc _, hH.2.1.alloc _, hH.2.2.1.alloc _, hH.2.2.2.1.alloc _, hH.2.2.2.2.1.alloc _, hH.2.2.2.2.2.1.alloc _, hH.2.2.2.2.2.2.1.imp fun _ h => h.alloc _, bwA (hH.2.2.2.2.2.2.2) (Nat.le_refl _) _⟩
          clear hK K
          (try simp only [cq])
          obtain ⟨bP, hbA⟩ : ∃ b, Blk.num hA = b := ⟨_, rfl⟩
          obtain ⟨W, hW⟩ : ∃ V, Blk.wld hA = V := ⟨_, rfl⟩
          simp only [Blk.num] at hbA
          simp only [Blk.wld] at hW
          first | replace hAbT := awB hW hAbT | replace hAbT := awD hW hAbT
          rw [hW] at hH hA ⊢
          rw [hbA] at hA ⊢
          replace hNbP1 : bs < bP := (by rw [← hbA]; exact hNbP1)
          have hPbPbT : bP ≠ bT := (by (try simp only [World.drew] at zzbT hbA); omega)
          clear hW hbA zzbT
          have hAbP := hA
          clear hA
          refine tkY 17 (some 16) ?_ ?_ ?_
          rotate_left
          · intro w _; go_simp; (try with_reducible rfl)
          (try simp only [cq])
          exact X1_03 t bP bT W ⟨hH, hAbP, hAbT, hNbP1, hNbT1, hPbPbT⟩
          }
          refine arc (some 92) (fun K hK => ?_) ?_
          {
          have hNbQ1 := hH.2.2.2.2.2.2.1.choose_spec.lt
          have zzbT := hAbT.lt
          go_simp
          first | refine oA hK ?_ (fun hH hA => ?_) | refine oD hK ?_ (fun hH hA => ?_)
          · exact ⟨hH.1.alloc _, hH.2.1.alloc _, hH.2.2.1.alloc _, hH.2.2.2.1.alloc _, hH.2.2.2.2.1.alloc _, hH.2.2.2.2.2.1.alloc _, hH.2.2.2.2.2.2.1.imp fun _ h => h.alloc _, bwA (hH.2.2.2.2.2.2.2) (Nat.le_refl _) _⟩
          clear hK K
          (try simp only [cq])
          obtain ⟨bQ, hbA⟩ : ∃ b, Blk.num hA = b := ⟨_, rfl⟩
          obtain ⟨W, hW⟩ : ∃ V, Blk.wld hA = V := ⟨_, rfl⟩
          simp only [Blk.num] at hbA
          simp only [Blk.wld] at hW
          first | replace hAbT := awB hW hAbT | replace hAbT := awD hW hAbT
          rw [hW] at hH hA ⊢
          rw [hbA] at hA ⊢
          replace hNbQ1 : bs < bQ := (by rw [← hbA]; exact hNbQ1)
          have hPbQbT : bQ ≠ bT := (by (try simp only [World.drew] at zzbT hbA); omega)
          clear hW hbA zzbT
          have hAbQ := hA
          clear hA
          exact X1_13 t bQ bT W ⟨hH, hAbQ, hAbT, hNbQ1, hNbT1, hPbQbT⟩
          }
          refine arc (some 96) (fun K hK => ?_) ?_
          {
          have hNbR1 := hH.2.2.2.2.2.2.1.choose_spec.lt
          have zzbT := hAbT.lt
          go_simp
          first | refine oA hK ?_ (fun hH hA => ?_) | refine oD hK ?_ (fun hH hA => ?_)
          · exact ⟨hH.1.alloc _, hH.2.1.alloc _, hH.2.2.1.alloc _, hH.2.2.2.1.alloc _, hH.2.2.2.2.1.alloc _, hH.2.2.2.2.2.1.alloc _, hH.2.2.2.2.2.2.1.imp fun _ h => h.alloc _, bwA (hH.2.2.2.2.2.2.2) (Nat.le_refl _) _⟩
          clear hK K
          (try simp only [cq])
          obtain ⟨bR, hbA⟩ : ∃ b, Blk.num hA = b := ⟨_, rfl⟩
          obtain ⟨W, hW⟩ : ∃ V, Blk.wld hA = V := ⟨_, rfl⟩
          simp only [Blk.num] at hbA
          simp only [Blk.wld] at hW
          first | replace hAbT := awB hW hAbT | replace hAbT := awD hW hAbT
          rw [hW] at hH hA ⊢
          rw [hbA] at hA ⊢
          replace hNbR1 : bs < bR := (by rw [← hbA]; exact hNbR1)
          have hPbRbT : bR ≠ bT := (by (try simp only [World.drew] at zzbT hbA); omega)
          clear hW hbA zzbT
          have hAbR := hA
          clear hA
          exact X1_23 t bR bT W ⟨hH, hAbR, hAbT, hNbR1, hNbT1, hPbRbT⟩
          }
          exact AllReadyH.nil
          }
          }
          {
          intro t bR W hall
          obtain ⟨hH, hAbR, hNbR1⟩ := hall
          (try dsimp only at hH)
          refine wpAnyH_ready (rs := [3, 7, 16]) (by kernel_rfl) (by simp) ?_
          refine arc (some 88) (fun K hK => ?_) ?_
          {
          have hNbP1 := hH.2.2.2.2.2.2.1.choose_spec.lt
          have zzbR := hAbR.lt
          go_simp
          first | refine oA hK ?_ (fun hH hA => ?_) | refine oD hK ?_ (fun hH hA => ?_)
          · exact ⟨hH.1.alloc _, hH.2.1.alloc _, hH.2.2.1.alloc _, hH.2.2.2.1.alloc _, hH.2.2.2.2.1.alloc _, hH.2.2.2.2.2.1.alloc _, hH.2.2.2.2.2.2.1.imp fun _ h => h.alloc _, bwA (hH.2.2.2.2.2.2.2) (Nat.le_refl _) _⟩
          clear hK K
          (try simp only [cq])
          obtain ⟨bP, hbA⟩ : ∃ b, Blk.num hA = b := ⟨_, rfl⟩
          obtain ⟨W, hW⟩ : ∃ V, Blk.wld hA = V := ⟨_, rfl⟩
          simp only [Blk.num] at hbA
          simp only [Blk.wld] at hW
          first | replace hAbR := awB hW hAbR | replace hAbR := awD hW hAbR
          rw [hW] at hH hA ⊢
          rw [hbA] at hA ⊢
          replace hNbP1 : bs < bP := (by rw [← hbA]; exact hNbP1)
          have hPbPbR : bP ≠ bR := (by (try simp only [World.drew] at zzbR hbA); omega)
          clear hW hbA zzbR
          have hAbP := hA
          clear hA
          refine tkY 17 (some 16) ?_ ?_ ?_
          rotate_left
          · intro w _; go_simp; (try with_reducible rfl)
          (try simp only [cq])
          exact X1_02 t bP bR W ⟨hH, hAbP, hAbR, hNbP1, hNbR1, hPbPbR⟩
          }
          refine arc (some 92) (fun K hK => ?_) ?_
          {
          have hNbQ1 := hH.2.2.2.2.2.2.1.choose_spec.lt
          have zzbR := hAbR.lt
          go_simp
          first | refine oA hK ?_ (fun hH hA => ?_) | refine oD hK ?_ (fun hH hA => ?_)
          · exact ⟨hH.1.alloc _, hH.2.1.alloc _, hH.2.2.1.alloc _, hH.2.2.2.1.alloc _, hH.2.2.2.2.1.alloc _, hH.2.2.2.2.2.1.alloc _, hH.2.2.2.2.2.2.1.imp fun _ h => h.alloc _, bwA (hH.2.2.2.2.2.2.2) (Nat.le_refl _) _⟩
          clear hK K
          (try simp only [cq])
          obtain ⟨bQ, hbA⟩ : ∃ b, Blk.num hA = b := ⟨_, rfl⟩
          obtain ⟨W, hW⟩ : ∃ V, Blk.wld hA = V := ⟨_, rfl⟩
          simp only [Blk.num] at hbA
          simp only [Blk.wld] at hW
          first | replace hAbR := awB hW hAbR | replace hAbR := awD hW hAbR
          rw [hW] at hH hA ⊢
          rw [hbA] at hA ⊢
          replace hNbQ1 : bs < bQ := (by rw [← hbA]; exact hNbQ1)
          have hPbQbR : bQ ≠ bR := (by (try simp only [World.drew] at zzbR hbA); omega)
          clear hW hbA zzbR
          have hAbQ := hA
          clear hA
          exact X1_12 t bQ bR W ⟨hH, hAbQ, hAbR, hNbQ1, hNbR1, hPbQbR⟩
          }
          refine arc (some 101) (fun K hK => ?_) ?_
          {
          have hNbT1 := hH.2.2.2.2.2.2.1.choose_spec.lt
          have zzbR := hAbR.lt
          go_simp
          first | refine oA hK ?_ (fun hH hA => ?_) | refine oD hK ?_ (fun hH hA => ?_)
          · exact ⟨hH.1.alloc _, hH.2.1.alloc _, hH.2.2.1.alloc _, hH.2.2.2.1.alloc _, hH.2.2.2.2.1.alloc _, hH.2.2.2.2.2.1.alloc _, hH.2.2.2.2.2.2.1.imp fun _ h => h.alloc _, bwA (hH.2.2.2.2.2.2.2) (Nat.le_refl _) _⟩
          clear hK K
          (try simp only [cq])
          obtain ⟨bT, hbA⟩ : ∃ b, Blk.num hA = b := ⟨_, rfl⟩
          obtain ⟨W, hW⟩ : ∃ V, Blk.wld hA = V := ⟨_, rfl⟩
          simp only [Blk.num] at hbA
          simp only [Blk.wld] at hW
          first | replace hAbR := awB hW hAbR | replace hAbR := awD hW hAbR
          rw [hW] at hH hA ⊢
          rw [hbA] at hA ⊢
          replace hNbT1 : bs < bT := (by rw [← hbA]; exact hNbT1)
          have hPbRbT : bR ≠ bT := (by (try simp only [World.drew] at zzbR hbA); omega)
          clear hW hbA zzbR
          have hAbT := hA
          clear hA
          exact X1_23 t bR bT W ⟨hH, hAbR, hAbT, hNbR1, hNbT1, hPbRbT⟩
          }
          exact AllReadyH.nil
          }
          }
          {
          intro t bQ W hall
          obtain ⟨hH, hAbQ, hNbQ1⟩ := hall
          (try dsimp only at hH)
          refine wpAnyH_ready (rs := [3, 11, 16]) (by kernel_rfl) (by simp) ?_
          refine arc (some 88) (fun K hK => ?_) ?_
          {
          have hNbP1 := hH.2.2.2.2.2.2.1.choose_spec.lt
          have zzbQ := hAbQ.lt
          go_simp
          first | refine oA hK ?_ (fun hH hA => ?_) | refine oD hK ?_ (fun hH hA => ?_)
          · exact ⟨hH.1.alloc _, hH.2.1.alloc _, hH.2.2.1.alloc _, hH.2.2.2.1.alloc _, hH.2.2.2.2.1.alloc _, hH.2.2.2.2.2.1.alloc _, hH.2.2.2.2.2.2.1.imp fun _ h => h.alloc _, bwA (hH.2.2.2.2.2.2.2) (Nat.le_refl _) _⟩
          clear hK K
          (try simp only [cq])
          obtain ⟨bP, hbA⟩ : ∃ b, Blk.num hA = b := ⟨_, rfl⟩
          obtain ⟨W, hW⟩ : ∃ V, Blk.wld hA = V := ⟨_, rfl⟩
          simp only [Blk.num] at hbA
          simp only [Blk.wld] at hW
          first | replace hAbQ := awB hW hAbQ | replace hAbQ := awD hW hAbQ
          rw [hW] at hH hA ⊢
          rw [hbA] at hA ⊢
          replace hNbP1 : bs < bP := (by rw [← hbA]; exact hNbP1)
          have hPbPbQ : bP ≠ bQ := (by (try simp only [World.drew] at zzbQ hbA); omega)
          clear hW hbA zzbQ
          have hAbP := hA
          clear hA
          refine tkY 17 (some 16) ?_ ?_ ?_
          rotate_left
          · intro w _; go_simp; (try with_reducible rfl)
          (try simp only [cq])
          refine tkY 18 (some 17) ?_ ?_ ?_
          rotate_left
          · intro w _; go_simp; (try with_reducible rfl)
          (try simp only [cq])
          exact X1_01 t bP bQ W ⟨hH, hAbP, hAbQ, hNbP1, hNbQ1, hPbPbQ⟩
          }
          refine arc (some 96) (fun K hK => ?_) ?_
          {
          have hNbR1 := hH.2.2.2.2.2.2.1.choose_spec.lt
          have zzbQ := hAbQ.lt
          go_simp
          first | refine oA hK ?_ (fun hH hA => ?_) | refine oD hK ?_ (fun hH hA => ?_)
          · exact ⟨hH.1.alloc _, hH.2.1.alloc _, hH.2.2.1.alloc _, hH.2.2.2.1.alloc _, hH.2.2.2.2.1.alloc _, hH.2.2.2.2.2.1.alloc _, hH.2.2.2.2.2.2.1.imp fun _ h => h.alloc _, bwA (hH.2.2.2.2.2.2.2) (Nat.le_refl _) _⟩
          clear hK K
          (try simp only [cq])
          obtain ⟨bR, hbA⟩ : ∃ b, Blk.num hA = b := ⟨_, rfl⟩
          obtain ⟨W, hW⟩ : ∃ V, Blk.wld hA = V := ⟨_, rfl⟩
          simp only [Blk.num] at hbA
          simp only [Blk.wld] at hW
          first | replace hAbQ := awB hW hAbQ | replace hAbQ := awD hW hAbQ
          rw [hW] at hH hA ⊢
          rw [hbA] at hA ⊢
          replace hNbR1 : bs < bR := (by rw [← hbA]; exact hNbR1)
          have hPbQbR : bQ ≠ bR := (by (try simp only [World.drew] at zzbQ hbA); omega)
          clear hW hbA zzbQ
          have hAbR := hA
          clear hA
          exact X1_12 t bQ bR W ⟨hH, hAbQ, hAbR, hNbQ1, hNbR1, hPbQbR⟩
          }
          refine arc (some 101) (fun K hK => ?_) ?_
          {
          have hNbT1 := hH.2.2.2.2.2.2.1.choose_spec.lt
          have zzbQ := hAbQ.lt
          go_simp
          first | refine oA hK ?_ (fun hH hA => ?_) | refine oD hK ?_ (fun hH hA => ?_)
          · exact ⟨hH.1.alloc _, hH.2.1.alloc _, hH.2.2.1.alloc _, hH.2.2.2.1.alloc _, hH.2.2.2.2.1.alloc _, hH.2.2.2.2.2.1.alloc _, hH.2.2.2.2.2.2.1.imp fun _ h => h.alloc _, bwA (hH.2.2.2.2.2.2.2) (Nat.le_refl _) _⟩
          clear hK K
          (try simp only [cq])
          obtain ⟨bT, hbA⟩ : ∃ b, Blk.num hA = b := ⟨_, rfl⟩
          obtain ⟨W, hW⟩ : ∃ V, Blk.wld hA = V := ⟨_, rfl⟩
          simp only [Blk.num] at hbA
          simp only [Blk.wld] at hW
          first | replace hAbQ := awB hW hAbQ | replace hAbQ := awD hW hAbQ
          rw [hW] at hH hA ⊢
          rw [hbA] at hA ⊢
          replace hNbT1 : bs < bT := (by rw [← hbA]; exact hNbT1)
          have hPbQbT : bQ ≠ bT := (by (try simp only [World.drew] at zzbQ hbA); omega)
          clear hW hbA zzbQ
          have hAbT := hA
          clear hA
          exact X1_13 t bQ bT W ⟨hH, hAbQ, hAbT, hNbQ1, hNbT1, hPbQbT⟩
          }
          exact AllReadyH.nil
          }
          }
          {
          intro t bP W hall
          obtain ⟨hH, hAbP, hNbP1⟩ := hall
          (try dsimp only at hH)
          refine wpAnyH_ready (rs := [7, 11, 16]) (by kernel_rfl) (by simp) ?_
          refine arc (some 92) (fun K hK => ?_) ?_
          {
          have hNbQ1 := hH.2.2.2.2.2.2.1.choose_spec.lt
          have zzbP := hAbP.lt
          go_simp
          first | refine oA hK ?_ (fun hH hA => ?_) | refine oD hK ?_ (fun hH hA => ?_)
          · exact ⟨hH.1.alloc _, hH.2.1.alloc _, hH.2.2.1.alloc _, hH.2.2.2.1.alloc _, hH.2.2.2.2.1.alloc _, hH.2.2.2.2.2.1.alloc _, hH.2.2.2.2.2.2.1.imp fun _ h => h.alloc _, bwA (hH.2.2.2.2.2.2.2) (Nat.le_refl _) _⟩
          clear hK K
          (try simp only [cq])
          obtain ⟨bQ, hbA⟩ : ∃ b, Blk.num hA = b := ⟨_, rfl⟩
          obtain ⟨W, hW⟩ : ∃ V, Blk.wld hA = V := ⟨_, rfl⟩
          simp only [Blk.num] at hbA
          simp only [Blk.wld] at hW
          first | replace hAbP := awB hW hAbP | replace hAbP := awD hW hAbP
          rw [hW] at hH hA ⊢
          rw [hbA] at hA ⊢
          replace hNbQ1 : bs < bQ := (by rw [← hbA]; exact hNbQ1)
          have hPbPbQ : bP ≠ bQ := (by (try simp only [World.drew] at zzbP hbA); omega)
          clear hW hbA zzbP
          have hAbQ := hA
          clear hA
          refine tkY 18 (some 17) ?_ ?_ ?_
          rotate_left
          · intro w _; go_simp; (try with_reducible rfl)
          (try simp only [cq])
          exact X1_01 t bP bQ W ⟨hH, hAbP, hAbQ, hNbP1, hNbQ1, hPbPbQ⟩
          }
          refine arc (some 96) (fun K hK => ?_) ?_
          {
          have hNbR1 := hH.2.2.2.2.2.2.1.choose_spec.lt
          have zzbP := hAbP.lt
          go_simp
          first | refine oA hK ?_ (fun hH hA => ?_) | refine oD hK ?_ (fun hH hA => ?_)
          · exact ⟨hH.1.alloc _, hH.2.1.alloc _, hH.2.2.1.alloc _, hH.2.2.2.1.alloc _, hH.2.2.2.2.1.alloc _, hH.2.2.2.2.2.1.alloc _, hH.2.2.2.2.2.2.1.imp fun _ h => h.alloc _, bwA (hH.2.2.2.2.2.2.2) (Nat.le_refl _) _⟩
          clear hK K
          (try simp only [cq])
          obtain ⟨bR, hbA⟩ : ∃ b, Blk.num hA = b := ⟨_, rfl⟩
          obtain ⟨W, hW⟩ : ∃ V, Blk.wld hA = V := ⟨_, rfl⟩
          simp only [Blk.num] at hbA
          simp only [Blk.wld] at hW
          first | replace hAbP := awB hW hAbP | replace hAbP := awD hW hAbP
          rw [hW] at hH hA ⊢
          rw [hbA] at hA ⊢
          replace hNbR1 : bs < bR := (by rw [← hbA]; exact hNbR1)
          have hPbPbR : bP ≠ bR := (by (try simp only [World.drew] at zzbP hbA); omega)
          clear hW hbA zzbP
          have hAbR := hA
          clear hA
          exact X1_02 t bP bR W ⟨hH, hAbP, hAbR, hNbP1, hNbR1, hPbPbR⟩
          }
          refine arc (some 101) (fun K hK => ?_) ?_
          {
          have hNbT1 := hH.2.2.2.2.2.2.1.choose_spec.lt
          have zzbP := hAbP.lt
          go_simp
          first | refine oA hK ?_ (fun hH hA => ?_) | refine oD hK ?_ (fun hH hA => ?_)
          · exact ⟨hH.1.alloc _, hH.2.1.alloc _, hH.2.2.1.alloc _, hH.2.2.2.1.alloc _, hH.2.2.2.2.1.alloc _, hH.2.2.2.2.2.1.alloc _, hH.2.2.2.2.2.2.1.imp fun _ h => h.alloc _, bwA (hH.2.2.2.2.2.2.2) (Nat.le_refl _) _⟩
          clear hK K
          (try simp only [cq])
          obtain ⟨bT, hbA⟩ : ∃ b, Blk.num hA = b := ⟨_, rfl⟩
          obtain ⟨W, hW⟩ : ∃ V, Blk.wld hA = V := ⟨_, rfl⟩
          simp only [Blk.num] at hbA
          simp only [Blk.wld] at hW
          first | replace hAbP := awB hW hAbP | replace hAbP := awD hW hAbP
          rw [hW] at hH hA ⊢
          rw [hbA] at hA ⊢
          replace hNbT1 : bs < bT := (by rw [← hbA]; exact hNbT1)
          have hPbPbT : bP ≠ bT := (by (try simp only [World.drew] at zzbP hbA); omega)
          clear hW hbA zzbP
          have hAbT := hA
          clear hA
          exact X1_03 t bP bT W ⟨hH, hAbP, hAbT, hNbP1, hNbT1, hPbPbT⟩
          }
          exact AllReadyH.nil
          }
          }
          {
          intro bQ bR W hall
          obtain ⟨hH, hAbQ, hAbR, hNbQ1, hNbR1, hPbQbR⟩ := hall
          (try dsimp only at hH)
          refine wpAnyH_ready (rs := [3, 14]) (by kernel_rfl) (by simp) ?_
          refine arc (some 88) (fun K hK => ?_) ?_
          {
          have hNbP1 := hH.2.2.2.2.2.2.1.choose_spec.lt
          have zzbQ := hAbQ.lt
          have zzbR := hAbR.lt
          go_simp
          first | refine oA hK ?_ (fun hH hA => ?_) | refine oD hK ?_ (fun hH hA => ?_)
          · exact ⟨hH.1.alloc _, hH.2.1.alloc _, hH.2.2.1.alloc _, hH.2.2.2.1.alloc _, hH.2.2.2.2.1.alloc _, hH.2.2.2.2.2.1.alloc _, hH.2.2.2.2.2.2.1.imp fun _ h => h.alloc _, bwA (hH.2.2.2.2.2.2.2) (Nat.le_refl _) _⟩
          clear hK K
          (try simp only [cq])
          obtain ⟨bP, hbA⟩ : ∃ b, Blk.num hA = b := ⟨_, rfl⟩
          obtain ⟨W, hW⟩ : ∃ V, Blk.wld hA = V := ⟨_, rfl⟩
          simp only [Blk.num] at hbA
          simp only [Blk.wld] at hW
          first | replace hAbQ := awB hW hAbQ | replace hAbQ := awD hW hAbQ
          first | replace hAbR := awB hW hAbR | replace hAbR := awD hW hAbR
          rw [hW] at hH hA ⊢
          rw [hbA] at hA ⊢
          replace hNbP1 : bs < bP := (by rw [← hbA]; exact hNbP1)
          have hPbPbQ : bP ≠ bQ := (by (try simp only [World.drew] at zzbQ hbA); omega)
          have hPbPbR : bP ≠ bR := (by (try simp only [World.drew] at zzbR hbA); omega)
          clear hW hbA zzbQ zzbR
          have hAbP := hA
          clear hA
          exact X0_012 bP bQ bR W ⟨hH, hAbP, hAbQ, hAbR, hNbP1, hNbQ1, hNbR1, hPbPbQ, hPbPbR, hPbQbR⟩
          }
          refine arc (some 99) (fun K hK => ?_) ?_
          {
          go_simp
          (refine (from_in 0 1000 bs _ hH.2.2.2.2.2.2.1 (by decide) (by decide) (by decide) (by decide)).mono ?_; rintro e w' ⟨t, rfl, _, _, hd⟩)
          (replace hAbQ := hd.blk hAbQ (by omega))
          (replace hAbR := hd.blk hAbR (by omega))
          refine hK.out _ _ ?_ ?_
          · (exact ⟨hd.blk hH.1 (by omega), hd.blk hH.2.1 (by omega), hd.blk hH.2.2.1 (by omega), hd.blk hH.2.2.2.1 (by omega), hd.row hH.2.2.2.2.1 (by omega), hd.row hH.2.2.2.2.2.1 (by omega), hd.seed, Drawn.below hH.2.2.2.2.2.2.2 hd zwbs⟩)
          (try clear hH); (try clear hd)
          intro hH
          clear hK K
          (try simp only [cq])
          exact X1_12 t bQ bR w' ⟨hH, hAbQ, hAbR, hNbQ1, hNbR1, hPbQbR⟩
          }
          exact AllReadyH.nil
          }
          }
          {
          intro bP bR W hall
          obtain ⟨hH, hAbP, hAbR, hNbP1, hNbR1, hPbPbR⟩ := hall
          (try dsimp only at hH)
          refine wpAnyH_ready (rs := [7, 14]) (by kernel_rfl) (by simp) ?_
          refine arc (some 92) (fun K hK => ?_) ?_
          {
          have hNbQ1 := hH.2.2.2.2.2.2.1.choose_spec.lt
          have zzbP := hAbP.lt
          have zzbR := hAbR.lt
          go_simp
          first | refine oA hK ?_ (fun hH hA => ?_) | refine oD hK ?_ (fun hH hA => ?_)
          · exact ⟨hH.1.alloc _, hH.2.1.alloc _, hH.2.2.1.alloc _, hH.2.2.2.1.alloc _, hH.2.2.2.2.1.alloc _, hH.2.2.2.2.2.1.alloc _, hH.2.2.2.2.2.2.1.imp fun _ h => h.alloc _, bwA (hH.2.2.2.2.2.2.2) (Nat.le_refl _) _⟩
          clear hK K
          (try simp only [cq])
          obtain ⟨bQ, hbA⟩ : ∃ b, Blk.num hA = b := ⟨_, rfl⟩
          obtain ⟨W, hW⟩ : ∃ V, Blk.wld hA = V := ⟨_, rfl⟩
          simp only [Blk.num] at hbA
          simp only [Blk.wld] at hW
          first | replace hAbP := awB hW hAbP | replace hAbP := awD hW hAbP
          first | replace hAbR := awB hW hAbR | replace hAbR := awD hW hAbR
          rw [hW] at hH hA ⊢
          rw [hbA] at hA ⊢
          replace hNbQ1 : bs < bQ := (by rw [← hbA]; exact hNbQ1)
          have hPbPbQ : bP ≠ bQ := (by (try simp only [World.drew] at zzbP hbA); omega)
          have hPbQbR : bQ ≠ bR := (by (try simp only [World.drew] at zzbR hbA); omega)
          clear hW hbA zzbP zzbR
          have hAbQ := hA
          clear hA
          exact X0_012 bP bQ bR W ⟨hH, hAbP, hAbQ, hAbR, hNbP1, hNbQ1, hNbR1, hPbPbQ, hPbPbR, hPbQbR⟩
          }
          refine arc (some 99) (fun K hK => ?_) ?_
          {
          go_simp
          (refine (from_in 0 1000 bs _ hH.2.2.2.2.2.2.1 (by decide) (by decide) (by decide) (by decide)).mono ?_; rintro e w' ⟨t, rfl, _, _, hd⟩)
          (replace hAbP := hd.blk hAbP (by omega))
          (replace hAbR := hd.blk hAbR (by omega))
          refine hK.out _ _ ?_ ?_
          · (exact ⟨hd.blk hH.1 (by omega), hd.blk hH.2.1 (by omega), hd.blk hH.2.2.1 (by omega), hd.blk hH.2.2.2.1 (by omega), hd.row hH.2.2.2.2.1 (by omega), hd.row hH.2.2.2.2.2.1 (by omega), hd.seed, Drawn.below hH.2.2.2.2.2.2.2 hd zwbs⟩)
          (try clear hH); (try clear hd)
          intro hH
          clear hK K
          (try simp only [cq])
          refine tkY 17 (some 16) ?_ ?_ ?_
          rotate_left
          · intro w _; go_simp; (try with_reducible rfl)
          (try simp only [cq])
          exact X1_02 t bP bR w' ⟨hH, hAbP, hAbR, hNbP1, hNbR1, hPbPbR⟩
          }
          exact AllReadyH.nil
          }
          }
          {
          intro bP bQ W hall
          obtain ⟨hH, hAbP, hAbQ, hNbP1, hNbQ1, hPbPbQ⟩ := hall
          (try dsimp only at hH)
          refine wpAnyH_ready (rs := [11, 14]) (by kernel_rfl) (by simp) ?_
          refine arc (some 96) (fun K hK => ?_) ?_
          {
          have hNbR1 := hH.2.2.2.2.2.2.1.choose_spec.lt
          have zzbP := hAbP.lt
          have zzbQ := hAbQ.lt
          go_simp
          first | refine oA hK ?_ (fun hH hA => ?_) | refine oD hK ?_ (fun hH hA => ?_)
          · exact ⟨hH.1.alloc _, hH.2.1.alloc _, hH.2.2.1.alloc _, hH.2.2.2.1.alloc _, hH.2.2.2.2.1.alloc _, hH.2.2.2.2.2.1.alloc _, hH.2.2.2.2.2.2.1.imp fun _ h => h.alloc _, bwA (hH.2.2.2.2.2.2.2) (Nat.le_refl _) _⟩
          clear hK K
          (try simp only [cq])
          obtain ⟨bR, hbA⟩ : ∃ b, Blk.num hA = b := ⟨_, rfl⟩
          obtain ⟨W, hW⟩ : ∃ V, Blk.wld hA = V := ⟨_, rfl⟩
          simp only [Blk.num] at hbA
          simp only [Blk.wld] at hW
          first | replace hAbP := awB hW hAbP | replace hAbP := awD hW hAbP
          first | replace hAbQ := awB hW hAbQ | replace hAbQ := awD hW hAbQ
          rw [hW] at hH hA ⊢
          rw [hbA] at hA ⊢
          replace hNbR1 : bs < bR := (by rw [← hbA]; exact hNbR1)
          have hPbPbR : bP ≠ bR := (by (try simp only [World.drew] at zzbP hbA); omega)
          have hPbQbR : bQ ≠ bR := (by (try simp only [World.drew] at zzbQ hbA); omega)
          clear hW hbA zzbP zzbQ
          have hAbR := hA
          clear hA
          exact X0_012 bP bQ bR W ⟨hH, hAbP, hAbQ, hAbR, hNbP1, hNbQ1, hNbR1, hPbPbQ, hPbPbR, hPbQbR⟩
          }
          refine arc (some 99) (fun K hK => ?_) ?_
          {
          go_simp
          (refine (from_in 0 1000 bs _ hH.2.2.2.2.2.2.1 (by decide) (by decide) (by decide) (by decide)).mono ?_; rintro e w' ⟨t, rfl, _, _, hd⟩)
          (replace hAbP := hd.blk hAbP (by omega))
          (replace hAbQ := hd.blk hAbQ (by omega))
          refine hK.out _ _ ?_ ?_
          · (exact ⟨hd.blk hH.1 (by omega), hd.blk hH.2.1 (by omega), hd.blk hH.2.2.1 (by omega), hd.blk hH.2.2.2.1 (by omega), hd.row hH.2.2.2.2.1 (by omega), hd.row hH.2.2.2.2.2.1 (by omega), hd.seed, Drawn.below hH.2.2.2.2.2.2.2 hd zwbs⟩)
          (try clear hH); (try clear hd)
          intro hH
          clear hK K
          (try simp only [cq])
          refine tkY 17 (some 16) ?_ ?_ ?_
          rotate_left
          · intro w _; go_simp; (try with_reducible rfl)
          (try simp only [cq])
          refine tkY 18 (some 17) ?_ ?_ ?_
          rotate_left
          · intro w _; go_simp; (try with_reducible rfl)
          (try simp only [cq])
          exact X1_01 t bP bQ w' ⟨hH, hAbP, hAbQ, hNbP1, hNbQ1, hPbPbQ⟩
          }
          exact AllReadyH.nil
          }
          }
          {
          intro t bR bT W hall
          obtain ⟨hH, hAbR, hAbT, hNbR1, hNbT1, hPbRbT⟩ := hall
          (try dsimp only at hH)
          refine wpAnyH_ready (rs := [3, 7]) (by kernel_rfl) (by simp) ?_
          refine arc (some 88) (fun K hK => ?_) ?_
          {
          have hNbP1 := hH.2.2.2.2.2.2.1.choose_spec.lt
          have zzbR := hAbR.lt
          have zzbT := hAbT.lt
          go_simp
          first | refine oA hK ?_ (fun hH hA => ?_) | refine oD hK ?_ (fun hH hA => ?_)
          · exact ⟨hH.1.alloc _, hH.2.1.alloc _, hH.2.2.1.alloc _, hH.2.2.2.1.alloc _, hH.2.2.2.2.1.alloc _, hH.2.2.2.2.2.1.alloc _, hH.2.2.2.2.2.2.1.imp fun _ h => h.alloc _, bwA (hH.2.2.2.2.2.2.2) (Nat.le_refl _) _⟩
          clear hK K
          (try simp only [cq])
          obtain ⟨bP, hbA⟩ : ∃ b, Blk.num hA = b := ⟨_, rfl⟩
          obtain ⟨W, hW⟩ : ∃ V, Blk.wld hA = V := ⟨_, rfl⟩
          simp only [Blk.num] at hbA
          simp only [Blk.wld] at hW
          first | replace hAbR := awB hW hAbR | replace hAbR := awD hW hAbR
          first | replace hAbT := awB hW hAbT | replace hAbT := awD hW hAbT
          rw [hW] at hH hA ⊢
          rw [hbA] at hA ⊢
          replace hNbP1 : bs < bP := (by rw [← hbA]; exact hNbP1)
          have hPbPbR : bP ≠ bR := (by (try simp only [World.drew] at zzbR hbA); omega)
          have hPbPbT : bP ≠ bT := (by (try simp only [World.drew] at zzbT hbA); omega)
          clear hW hbA zzbR zzbT
          have hAbP := hA
          clear hA
          refine tkY 17 (some 16) ?_ ?_ ?_
          rotate_left
          · intro w _; go_simp; (try with_reducible rfl)
          (try simp only [cq])
          exact X1_023 t bP bR bT W ⟨hH, hAbP, hAbR, hAbT, hNbP1, hNbR1, hNbT1, hPbPbR, hPbPbT, hPbRbT⟩
          }
          refine arc (some 92) (fun K hK => ?_) ?_
          {
          have hNbQ1 := hH.2.2.2.2.2.2.1.choose_spec.lt
          have zzbR := hAbR.lt
          have zzbT := hAbT.lt
          go_simp
          first | refine oA hK ?_ (fun hH hA => ?_) | refine oD hK ?_ (fun hH hA => ?_)
          · exact ⟨hH.1.alloc _, hH.2.1.alloc _, hH.2.2.1.alloc _, hH.2.2.2.1.alloc _, hH.2.2.2.2.1.alloc _, hH.2.2.2.2.2.1.alloc _, hH.2.2.2.2.2.2.1.imp fun _ h => h.alloc _, bwA (hH.2.2.2.2.2.2.2) (Nat.le_refl _) _⟩
          clear hK K
          (try simp only [cq])
          obtain ⟨bQ, hbA⟩ : ∃ b, Blk.num hA = b := ⟨_, rfl⟩
          obtain ⟨W, hW⟩ : ∃ V, Blk.wld hA = V := ⟨_, rfl⟩
          simp only [Blk.num] at hbA
          simp only [Blk.wld] at hW
          first | replace hAbR := awB hW hAbR | replace hAbR := awD hW hAbR
          first | replace hAbT := awB hW hAbT | replace hAbT := awD hW hAbT
          rw [hW] at hH hA ⊢
          rw [hbA] at hA ⊢
          replace hNbQ1 : bs < bQ := (by rw [← hbA]; exact hNbQ1)
          have hPbQbR : bQ ≠ bR := (by (try simp only [World.drew] at zzbR hbA); omega)
          have hPbQbT : bQ ≠ bT := (by (try simp only [World.drew] at zzbT hbA); omega)
          clear hW hbA zzbR zzbT
          have hAbQ := hA
          clear hA
          exact X1_123 t bQ bR bT W ⟨hH, hAbQ, hAbR, hAbT, hNbQ1, hNbR1, hNbT1, hPbQbR, hPbQbT, hPbRbT⟩
          }
          exact AllReadyH.nil
          }
          }
          {
          intro t bQ bT W hall
          obtain ⟨hH, hAbQ, hAbT, hNbQ1, hNbT1, hPbQbT⟩ := hall
          (try dsimp only at hH)
          refine wpAnyH_ready (rs := [3, 11]) (by kernel_rfl) (by simp) ?_
          refine arc (some 88) (fun K hK => ?_) ?_
          {
          have hNbP1 := hH.2.2.2.2.2.2.1.choose_spec.lt
          have zzbQ := hAbQ.lt
          have zzbT := hAbT.lt
          go_simp
          first | refine oA hK ?_ (fun hH hA => ?_) | refine oD hK ?_ (fun hH hA => ?_)
          · exact ⟨hH.1.alloc _, hH.2.1.alloc _, hH.2.2.1.alloc _, hH.2.2.2.1.alloc _, hH.2.2.2.2.1.alloc _, hH.2.2.2.2.2.1.alloc _, hH.2.2.2.2.2.2.1.imp fun _ h => h.alloc _, bwA (hH.2.2.2.2.2.2.2) (Nat.le_refl _) _⟩
          clear hK K
          (try simp only [cq])
          obtain ⟨bP, hbA⟩ : ∃ b, Blk.num hA = b := ⟨_, rfl⟩
          obtain ⟨W, hW⟩ : ∃ V, Blk.wld hA = V := ⟨_, rfl⟩
          simp only [Blk.num] at hbA
          simp only [Blk.wld] at hW
          first | replace hAbQ := awB hW hAbQ | replace hAbQ := awD hW hAbQ
          first | replace hAbT := awB hW hAbT | replace hAbT := awD hW hAbT
          rw [hW] at hH hA ⊢
          rw [hbA] at hA ⊢
          replace hNbP1 : bs < bP := (by rw [← hbA]; exact hNbP1)
          have hPbPbQ : bP ≠ bQ := (by (try simp only [World.drew] at zzbQ hbA); omega)
          have hPbPbT : bP ≠ bT := (by (try simp only [World.drew] at zzbT hbA); omega)
          clear hW hbA zzbQ zzbT
          have hAbP := hA
          clear hA
          refine tkY 17 (some 16) ?_ ?_ ?_
          rotate_left
          · intro w _; go_simp; (try with_reducible rfl)
          (try simp only [cq])
          refine tkY 18 (some 17) ?_ ?_ ?_
          rotate_left
          · intro w _; go_simp; (try with_reducible rfl)
          (try simp only [cq])
          exact X1_013 t bP bQ bT W ⟨hH, hAbP, hAbQ, hAbT, hNbP1, hNbQ1, hNbT1, hPbPbQ, hPbPbT, hPbQbT⟩
          }
          refine arc (some 96) (fun K hK => ?_) ?_
          {
          have hNbR1 := hH.2.2.2.2.2.2.1.choose_spec.lt
          have zzbQ := hAbQ.lt
          have zzbT := hAbT.lt
          go_simp
          first | refine oA hK ?_ (fun hH hA => ?_) | refine oD hK ?_ (fun hH hA => ?_)
          · exact ⟨hH.1.alloc _, hH.2.1.alloc _, hH.2.2.1.alloc _, hH.2.2.2.1.alloc _, hH.2.2.2.2.1.alloc _, hH.2.2.2.2.2.1.alloc _, hH.2.2.2.2.2.2.1.imp fun _ h => h.alloc _, bwA (hH.2.2.2.2.2.2.2) (Nat.le_refl _) _⟩
          clear hK K
          (try simp only [cq])
          obtain ⟨bR, hbA⟩ : ∃ b, Blk.num hA = b := ⟨_, rfl⟩
          obtain ⟨W, hW⟩ : ∃ V, Blk.wld hA = V := ⟨_, rfl⟩
          simp only [Blk.num] at hbA
          simp only [Blk.wld] at hW
          first | replace hAbQ := awB hW hAbQ | replace hAbQ := awD hW hAbQ
          first | replace hAbT := awB hW hAbT | replace hAbT := awD hW hAbT
          rw [hW] at hH hA ⊢
          rw [hbA] at hA ⊢
          replace hNbR1 : bs < bR := (by rw [← hbA]; exact hNbR1)
          have hPbQbR : bQ ≠ bR := (by (try simp only [World.drew] at zzbQ hbA); omega)
          have hPbRbT : bR ≠ bT := (by (try simp only [World.drew] at zzbT hbA); omega)
          clear hW hbA zzbQ zzbT
          have hAbR := hA
          clear hA
          exact X1_123 t bQ bR bT W ⟨hH, hAbQ, hAbR, hAbT, hNbQ1, hNbR1, hNbT1, hPbQbR, hPbQbT, hPbRbT⟩
          }
          exact AllReadyH.nil
          }
          }
          {
          intro t bQ bR W hall
          obtain ⟨hH, hAbQ, hAbR, hNbQ1, hNbR1, hPbQbR⟩ := hall
          (try dsimp only at hH)
          refine wpAnyH_ready (rs := [3, 16]) (by kernel_rfl) (by simp) ?_
          refine arc (some 88) (fun K hK => ?_) ?_
          {
          have hNbP1 := hH.2.2.2.2.2.2.1.choose_spec.lt
          have zzbQ := hAbQ.lt
          have zzbR := hAbR.lt
          go_simp
          first | refine oA hK ?_ (fun hH hA => ?_) | refine oD hK ?_ (fun hH hA => ?_)
          · exact ⟨hH.1.alloc _, hH.2.1.alloc _, hH.2.2.1.alloc _, hH.2.2.2.1.alloc _, hH.2.2.2.2.1.alloc _, hH.2.2.2.2.2.1.alloc _, hH.2.2.2.2.2.2.1.imp fun _ h => h.alloc _, bwA (hH.2.2.2.2.2.2.2) (Nat.le_refl _) _⟩
          clear hK K
          (try simp only [cq])
          obtain ⟨bP, hbA⟩ : ∃ b, Blk.num hA = b := ⟨_, rfl⟩
          obtain ⟨W, hW⟩ : ∃ V, Blk.wld hA = V := ⟨_, rfl⟩
          simp only [Blk.num] at hbA
          simp only [Blk.wld] at hW
          first | replace hAbQ := awB hW hAbQ | replace hAbQ := awD hW hAbQ
          first | replace hAbR := awB hW hAbR | replace hAbR := awD hW hAbR
          rw [hW] at hH hA ⊢
          rw [hbA] at hA ⊢
          replace hNbP1 : bs < bP := (by rw [← hbA]; exact hNbP1)
          have hPbPbQ : bP ≠ bQ := (by (try simp only [World.drew] at zzbQ hbA); omega)
          have hPbPbR : bP ≠ bR := (by (try simp only [World.drew] at zzbR hbA); omega)
          clear hW hbA zzbQ zzbR
          have hAbP := hA
          clear hA
          refine tkY 17 (some 16) ?_ ?_ ?_
          rotate_left
          · intro w _; go_simp; (try with_reducible rfl)
          (try simp only [cq])
          refine tkY 18 (some 17) ?_ ?_ ?_
          rotate_left
          · intro w _; go_simp; (try with_reducible rfl)
          (try simp only [cq])
          refine tkY 19 (some 18) ?_ ?_ ?_
          rotate_left
          · intro w _; go_simp; (try with_reducible rfl)
          (try simp only [cq])
          exact X1_012 t bP bQ bR W ⟨hH, hAbP, hAbQ, hAbR, hNbP1, hNbQ1, hNbR1, hPbPbQ, hPbPbR, hPbQbR⟩
          }
          refine arc (some 101) (fun K hK => ?_) ?_
          {
          have hNbT1 := hH.2.2.2.2.2.2.1.choose_spec.lt
          have zzbQ := hAbQ.lt
          have zzbR := hAbR.lt
          go_simp
          first | refine oA hK ?_ (fun hH hA => ?_) | refine oD hK ?_ (fun hH hA => ?_)
          · exact ⟨hH.1.alloc _, hH.2.1.alloc _, hH.2.2.1.alloc _, hH.2.2.2.1.alloc _, hH.2.2.2.2.1.alloc _, hH.2.2.2.2.2.1.alloc _, hH.2.2.2.2.2.2.1.imp fun _ h => h.alloc _, bwA (hH.2.2.2.2.2.2.2) (Nat.le_refl _) _⟩
          clear hK K
          (try simp only [cq])
          obtain ⟨bT, hbA⟩ : ∃ b, Blk.num hA = b := ⟨_, rfl⟩
          obtain ⟨W, hW⟩ : ∃ V, Blk.wld hA = V := ⟨_, rfl⟩
          simp only [Blk.num] at hbA
          simp only [Blk.wld] at hW
          first | replace hAbQ := awB hW hAbQ | replace hAbQ := awD hW hAbQ
          first | replace hAbR := awB hW hAbR | replace hAbR := awD hW hAbR
          rw [hW] at hH hA ⊢
          rw [hbA] at hA ⊢
          replace hNbT1 : bs < bT := (by rw [← hbA]; exact hNbT1)
          have hPbQbT : bQ ≠ bT := (by (try simp only [World.drew] at zzbQ hbA); omega)
          have hPbRbT : bR ≠ bT := (by (try simp only [World.drew] at zzbR hbA); omega)
          clear hW hbA zzbQ zzbR
          have hAbT := hA
          clear hA
          exact X1_123 t bQ bR bT W ⟨hH, hAbQ, hAbR, hAbT, hNbQ1, hNbR1, hNbT1, hPbQbR, hPbQbT, hPbRbT⟩
          }
          exact AllReadyH.nil
          }
          }
          {
          intro t bP bT W hall
          obtain ⟨hH, hAbP, hAbT, hNbP1, hNbT1, hPbPbT⟩ := hall
          (try dsimp only at hH)
          refine wpAnyH_ready (rs := [7, 11]) (by kernel_rfl) (by simp) ?_
          refine arc (some 92) (fun K hK => ?_) ?_
          {
          have hNbQ1 := hH.2.2.2.2.2.2.1.choose_spec.lt
          have zzbP := hAbP.lt
          have zzbT := hAbT.lt
          go_simp
          first | refine oA hK ?_ (fun hH hA => ?_) | refine oD hK ?_ (fun hH hA => ?_)
          · exact ⟨hH.1.alloc _, hH.2.1.alloc _, hH.2.2.1.alloc _, hH.2.2.2.1.alloc _, hH.2.2.2.2.1.alloc _, hH.2.2.2.2.2.1.alloc _, hH.2.2.2.2.2.2.1.imp fun _ h => h.alloc _, bwA (hH.2.2.2.2.2.2.2) (Nat.le_refl _) _⟩
          clear hK K
          (try simp only [cq])
          obtain ⟨bQ, hbA⟩ : ∃ b, Blk.num hA = b := ⟨_, rfl⟩
          obtain ⟨W, hW⟩ : ∃ V, Blk.wld hA = V := ⟨_, rfl⟩
          simp only [Blk.num] at hbA
          simp only [Blk.wld] at hW
          first | replace hAbP := awB hW hAbP | replace hAbP := awD hW hAbP
          first | replace hAbT := awB hW hAbT | replace hAbT := awD hW hAbT
          rw [hW] at hH hA ⊢
          rw [hbA] at hA ⊢
          replace hNbQ1 : bs < bQ := (by rw [← hbA]; exact hNbQ1)
          have hPbPbQ : bP ≠ bQ := (by (try simp only [World.drew] at zzbP hbA); omega)
          have hPbQbT : bQ ≠ bT := (by (try simp only [World.drew] at zzbT hbA); omega)
          clear hW hbA zzbP zzbT
          have hAbQ := hA
          clear hA
          refine tkY 18 (some 17) ?_ ?_ ?_
          rotate_left
          · intro w _; go_simp; (try with_reducible rfl)
          (try simp only [cq])
          exact X1_013 t bP bQ bT W ⟨hH, hAbP, hAbQ, hAbT, hNbP1, hNbQ1, hNbT1, hPbPbQ, hPbPbT, hPbQbT⟩
          }
          refine arc (some 96) (fun K hK => ?_) ?_
          {
          have hNbR1 := hH.2.2.2.2.2.2.1.choose_spec.lt
          have zzbP := hAbP.lt
          have zzbT := hAbT.lt
          go_simp
          first | refine oA hK ?_ (fun hH hA => ?_) | refine oD hK ?_ (fun hH hA => ?_)
          · exact ⟨hH.1.alloc _, hH.2.1.alloc _, hH.2.2.1.alloc _, hH.2.2.2.1.alloc _, hH.2.2.2.2.1.alloc _, hH.2.2.2.2.2.1.alloc _, hH.2.2.2.2.2.2.1.imp fun _ h => h.alloc _, bwA (hH.2.2.2.2.2.2.2) (Nat.le_refl _) _⟩
          clear hK K
          (try simp only [cq])
          obtain ⟨bR, hbA⟩ : ∃ b, Blk.num hA = b := ⟨_, rfl⟩
          obtain ⟨W, hW⟩ : ∃ V, Blk.wld hA = V := ⟨_, rfl⟩
          simp only [Blk.num] at hbA
          simp only [Blk.wld] at hW
          first | replace hAbP := awB hW hAbP | replace hAbP := awD hW hAbP
          first | replace hAbT := awB hW hAbT | replace hAbT := awD hW hAbT
          rw [hW] at hH hA ⊢
          rw [hbA] at hA ⊢
          replace hNbR1 : bs < bR := (by rw [← hbA]; exact hNbR1)
          have hPbPbR : bP ≠ bR := (by (try simp only [World.drew] at zzbP hbA); omega)
          have hPbRbT : bR ≠ bT := (by (try simp only [World.drew] at zzbT hbA); omega)
          clear hW hbA zzbP zzbT
          have hAbR := hA
          clear hA
          exact X1_023 t bP bR bT W ⟨hH, hAbP, hAbR, hAbT, hNbP1, hNbR1, hNbT1, hPbPbR, hPbPbT, hPbRbT⟩
          }
          exact AllReadyH.nil
          }
          }
          {
          intro t bP bR W hall
          obtain ⟨hH, hAbP, hAbR, hNbP1, hNbR1, hPbPbR⟩ := hall
          (try dsimp only at hH)
          refine wpAnyH_ready (rs := [7, 16]) (by kernel_rfl) (by simp) ?_
          refine arc (some 92) (fun K hK => ?_) ?_
          {
          have hNbQ1 := hH.2.2.2.2.2.2.1.choose_spec.lt
          have zzbP := hAbP.lt
          have zzbR := hAbR.lt
          go_simp
          first | refine oA hK ?_ (fun hH hA => ?_) | refine oD hK ?_ (fun hH hA => ?_)
          · exact ⟨hH.1.alloc _, hH.2.1.alloc _, hH.2.2.1.alloc _, hH.2.2.2.1.alloc _, hH.2.2.2.2.1.alloc _, hH.2.2.2.2.2.1.alloc _, hH.2.2.2.2.2.2.1.imp fun _ h => h.alloc _, bwA (hH.2.2.2.2.2.2.2) (Nat.le_refl _) _⟩
          clear hK K
          (try simp only [cq])
          obtain ⟨bQ, hbA⟩ : ∃ b, Blk.num hA = b := ⟨_, rfl⟩
          obtain ⟨W, hW⟩ : ∃ V, Blk.wld hA = V := ⟨_, rfl⟩
          simp only [Blk.num] at hbA
          simp only [Blk.wld] at hW
          first | replace hAbP := awB hW hAbP | replace hAbP := awD hW hAbP
          first | replace hAbR := awB hW hAbR | replace hAbR := awD hW hAbR
          rw [hW] at hH hA ⊢
          rw [hbA] at hA ⊢
          replace hNbQ1 : bs < bQ := (by rw [← hbA]; exact hNbQ1)
          have hPbPbQ : bP ≠ bQ := (by (try simp only [World.drew] at zzbP hbA); omega)
          have hPbQbR : bQ ≠ bR := (by (try simp only [World.drew] at zzbR hbA); omega)
          clear hW hbA zzbP zzbR
          have hAbQ := hA
          clear hA
          refine tkY 18 (some 17) ?_ ?_ ?_
          rotate_left
          · intro w _; go_simp; (try with_reducible rfl)
          (try simp only [cq])
          refine tkY 19 (some 18) ?_ ?_ ?_
          rotate_left
          · intro w _; go_simp; (try with_reducible rfl)
          (try simp only [cq])
          exact X1_012 t bP bQ bR W ⟨hH, hAbP, hAbQ, hAbR, hNbP1, hNbQ1, hNbR1, hPbPbQ, hPbPbR, hPbQbR⟩
          }
          refine arc (some 101) (fun K hK => ?_) ?_
          {
          have hNbT1 := hH.2.2.2.2.2.2.1.choose_spec.lt
          have zzbP := hAbP.lt
          have zzbR := hAbR.lt
          go_simp
          first | refine oA hK ?_ (fun hH hA => ?_) | refine oD hK ?_ (fun hH hA => ?_)
          · exact ⟨hH.1.alloc _, hH.2.1.alloc _, hH.2.2.1.alloc _, hH.2.2.2.1.alloc _, hH.2.2.2.2.1.alloc _, hH.2.2.2.2.2.1.alloc _, hH.2.2.2.2.2.2.1.imp fun _ h => h.alloc _, bwA (hH.2.2.2.2.2.2.2) (Nat.le_refl _) _⟩
          clear hK K
          (try simp only [cq])
          obtain ⟨bT, hbA⟩ : ∃ b, Blk.num hA = b := ⟨_, rfl⟩
          obtain ⟨W, hW⟩ : ∃ V, Blk.wld hA = V := ⟨_, rfl⟩
          simp only [Blk.num] at hbA
          simp only [Blk.wld] at hW
          first | replace hAbP := awB hW hAbP | replace hAbP := awD hW hAbP
          first | replace hAbR := awB hW hAbR | replace hAbR := awD hW hAbR
          rw [hW] at hH hA ⊢
          rw [hbA] at hA ⊢
          replace hNbT1 : bs < bT := (by rw [← hbA]; exact hNbT1)
          have hPbPbT : bP ≠ bT := (by (try simp only [World.drew] at zzbP hbA); omega)
          have hPbRbT : bR ≠ bT := (by (try simp only [World.drew] at zzbR hbA); omega)
          clear hW hbA zzbP zzbR
          have hAbT := hA
          clear hA
          exact X1_023 t bP bR bT W ⟨hH, hAbP, hAbR, hAbT, hNbP1, hNbR1, hNbT1, hPbPbR, hPbPbT, hPbRbT⟩
          }
          exact AllReadyH.nil
          }
          }
          {
          intro t bP bQ W hall
          obtain ⟨hH, hAbP, hAbQ, hNbP1, hNbQ1, hPbPbQ⟩ := hall
          (try dsimp only at hH)
          refine wpAnyH_ready (rs := [11, 16]) (by kernel_rfl) (by simp) ?_
          refine arc (some 96) (fun K hK => ?_) ?_
          {
          have hNbR1 := hH.2.2.2.2.2.2.1.choose_spec.lt
          have zzbP := hAbP.lt
          have zzbQ := hAbQ.lt
          go_simp
          first | refine oA hK ?_ (fun hH hA => ?_) | refine oD hK ?_ (fun hH hA => ?_)
          · exact ⟨hH.1.alloc _, hH.2.1.alloc _, hH.2.2.1.alloc _, hH.2.2.2.1.alloc _, hH.2.2.2.2.1.alloc _, hH.2.2.2.2.2.1.alloc _, hH.2.2.2.2.2.2.1.imp fun _ h => h.alloc _, bwA (hH.2.2.2.2.2.2.2) (Nat.le_refl _) _⟩
          clear hK K
          (try simp only [cq])
          obtain ⟨bR, hbA⟩ : ∃ b, Blk.num hA = b := ⟨_, rfl⟩
          obtain ⟨W, hW⟩ : ∃ V, Blk.wld hA = V := ⟨_, rfl⟩
          simp only [Blk.num] at hbA
          simp only [Blk.wld] at hW
          first | replace hAbP := awB hW hAbP | replace hAbP := awD hW hAbP
          first | replace hAbQ := awB hW hAbQ | replace hAbQ := awD hW hAbQ
          rw [hW] at hH hA ⊢
          rw [hbA] at hA ⊢
          replace hNbR1 : bs < bR := (by rw [← hbA]; exact hNbR1)
          have hPbPbR : bP ≠ bR := (by (try simp only [World.drew] at zzbP hbA); omega)
          have hPbQbR : bQ ≠ bR := (by (try simp only [World.drew] at zzbQ hbA); omega)
          clear hW hbA zzbP zzbQ
          have hAbR := hA
          clear hA
          refine tkY 19 (some 18) ?_ ?_ ?_
          rotate_left
          · intro w _; go_simp; (try with_reducible rfl)
          (try simp only [cq])
          exact X1_012 t bP bQ bR W ⟨hH, hAbP, hAbQ, hAbR, hNbP1, hNbQ1, hNbR1, hPbPbQ, hPbPbR, hPbQbR⟩
          }
          refine arc (some 101) (fun K hK => ?_) ?_
          {
          have hNbT1 := hH.2.2.2.2.2.2.1.choose_spec.lt
          have zzbP := hAbP.lt
          have zzbQ := hAbQ.lt
          go_simp
          first | refine oA hK ?_ (fun hH hA => ?_) | refine oD hK ?_ (fun hH hA => ?_)
          · exact ⟨hH.1.alloc _, hH.2.1.alloc _, hH.2.2.1.alloc _, hH.2.2.2.1.alloc _, hH.2.2.2.2.1.alloc _, hH.2.2.2.2.2.1.alloc _, hH.2.2.2.2.2.2.1.imp fun _ h => h.alloc _, bwA (hH.2.2.2.2.2.2.2) (Nat.le_refl _) _⟩
          clear hK K
          (try simp only [cq])
          obtain ⟨bT, hbA⟩ : ∃ b, Blk.num hA = b := ⟨_, rfl⟩
          obtain ⟨W, hW⟩ : ∃ V, Blk.wld hA = V := ⟨_, rfl⟩
          simp only [Blk.num] at hbA
          simp only [Blk.wld] at hW
          first | replace hAbP := awB hW hAbP | replace hAbP := awD hW hAbP
          first | replace hAbQ := awB hW hAbQ | replace hAbQ := awD hW hAbQ
          rw [hW] at hH hA ⊢
          rw [hbA] at hA ⊢
          replace hNbT1 : bs < bT := (by rw [← hbA]; exact hNbT1)
          have hPbPbT : bP ≠ bT := (by (try simp only [World.drew] at zzbP hbA); omega)
          have hPbQbT : bQ ≠ bT := (by (try simp only [World.drew] at zzbQ hbA); omega)
          clear hW hbA zzbP zzbQ
          have hAbT := hA
          clear hA
          exact X1_013 t bP bQ bT W ⟨hH, hAbP, hAbQ, hAbT, hNbP1, hNbQ1, hNbT1, hPbPbQ, hPbPbT, hPbQbT⟩
          }
          exact AllReadyH.nil
          }
          }
          {
          intro bP bQ bR W hall
          obtain ⟨hH, hAbP, hAbQ, hAbR, hNbP1, hNbQ1, hNbR1, hPbPbQ, hPbPbR, hPbQbR⟩ := hall
          (try dsimp only at hH)
          refine wpAnyH_ready (rs := [14]) (by kernel_rfl) (by simp) ?_
          refine arc1 (some 99) fun K hK => ?_
          go_simp
          (refine (from_in 0 1000 bs _ hH.2.2.2.2.2.2.1 (by decide) (by decide) (by decide) (by decide)).mono ?_; rintro e w' ⟨t, rfl, _, _, hd⟩)
          (replace hAbP := hd.blk hAbP (by omega))
          (replace hAbQ := hd.blk hAbQ (by omega))
          (replace hAbR := hd.blk hAbR (by omega))
          refine hK.out _ _ ?_ ?_
          · (exact ⟨hd.blk hH.1 (by omega), hd.blk hH.2.1 (by omega), hd.blk hH.2.2.1 (by omega), hd.blk hH.2.2.2.1 (by omega), hd.row hH.2.2.2.2.1 (by omega), hd.row hH.2.2.2.2.2.1 (by omega), hd.seed, Drawn.below hH.2.2.2.2.2.2.2 hd zwbs⟩)
          (try clear hH); (try clear hd)
          intro hH
          clear hK K
          (try simp only [cq])
          refine tkY 17 (some 16) ?_ ?_ ?_
          rotate_left
          · intro w _; go_simp; (try with_reducible rfl)
          (try simp only [cq])
          refine tkY 18 (some 17) ?_ ?_ ?_
          rotate_left
          · intro w _; go_simp; (try with_reducible rfl)
          (try simp only [cq])
          refine tkY 19 (some 18) ?_ ?_ ?_
          rotate_left
          · intro w _; go_simp; (try with_reducible rfl)
          (try simp only [cq])
          exact X1_012 t bP bQ bR w' ⟨hH, hAbP, hAbQ, hAbR, hNbP1, hNbQ1, hNbR1, hPbPbQ, hPbPbR, hPbQbR⟩
          }
          }
          {
          intro t bQ bR bT W hall
          obtain ⟨hH, hAbQ, hAbR, hAbT, hNbQ1, hNbR1, hNbT1, hPbQbR, hPbQbT, hPbRbT⟩ := hall
          (try dsimp only at hH)
          refine wpAnyH_ready (rs := [3]) (by kernel_rfl) (by simp) ?_
          refine arc1 (some 88) fun K hK => ?_
          have hNbP1 := hH.2.2.2.2.2.2.1.choose_spec.lt
          have zzbQ := hAbQ.lt
          have zzbR := hAbR.lt
          have zzbT := hAbT.lt
          go_simp
          first | refine oA hK ?_ (fun hH hA => ?_) | refine oD hK ?_ (fun hH hA => ?_)
          · exact ⟨hH.1.alloc _, hH.2.1.alloc _, hH.2.2.1.alloc _, hH.2.2.2.1.alloc _, hH.2.2.2.2.1.alloc _, hH.2.2.2.2.2.1.alloc _, hH.2.2.2.2.2.2.1.imp fun _ h => h.alloc _, bwA (hH.2.2.2.2.2.2.2) (Nat.le_refl _) _⟩
          clear hK K
          (try simp only [cq])
          obtain ⟨bP, hbA⟩ : ∃ b, Blk.num hA = b := ⟨_, rfl⟩
          obtain ⟨W, hW⟩ : ∃ V, Blk.wld hA = V := ⟨_, rfl⟩
          simp only [Blk.num] at hbA
          simp only [Blk.wld] at hW
          first | replace hAbQ := awB hW hAbQ | replace hAbQ := awD hW hAbQ
          first | replace hAbR := awB hW hAbR | replace hAbR := awD hW hAbR
          first | replace hAbT := awB hW hAbT | replace hAbT := awD hW hAbT
          rw [hW] at hH hA ⊢
          rw [hbA] at hA ⊢
          replace hNbP1 : bs < bP := (by rw [← hbA]; exact hNbP1)
          have hPbPbQ : bP ≠ bQ := (by (try simp only [World.drew] at zzbQ hbA); omega)
          have hPbPbR : bP ≠ bR := (by (try simp only [World.drew] at zzbR hbA); omega)
          have hPbPbT : bP ≠ bT := (by (try simp only [World.drew] at zzbT hbA); omega)
          clear hW hbA zzbQ zzbR zzbT
          have hAbP := hA
          clear hA
          refine tkY 17 (some 16) ?_ ?_ ?_
          rotate_left
          · intro w _; go_simp; (try with_reducible rfl)
          (try simp only [cq])
          refine tkY 18 (some 17) ?_ ?_ ?_
          rotate_left
          · intro w _; go_simp; (try with_reducible rfl)
          (try simp only [cq])
          refine tkY 19 (some 18) ?_ ?_ ?_
          rotate_left
          · intro w _; go_simp; (try with_reducible rfl)
          (try simp only [cq])
          refine tkY 20 (some 19) ?_ ?_ ?_
          rotate_left
          · intro w _; go_simp; (try with_reducible rfl)
          (try simp only [cq])
          exact X1_0123 t bP bQ bR bT W ⟨hH, hAbP, hAbQ, hAbR, hAbT, hNbP1, hNbQ1, hNbR1, hNbT1, hPbPbQ, hPbPbR, hPbPbT, hPbQbR, hPbQbT, hPbRbT⟩
          }
          }
          {
          intro t bP bR bT W hall
          obtain ⟨hH, hAbP, hAbR, hAbT, hNbP1, hNbR1, hNbT1, hPbPbR, hPbPbT, hPbRbT⟩ := hall
          (try dsimp only at hH)
          refine wpAnyH_ready (rs := [7]) (by kernel_rfl) (by simp) ?_
          refine arc1 (some 92) fun K hK => ?_
          have hNbQ1 := hH.2.2.2.2.2.2.1.choose_spec.lt
          have zzbP := hAbP.lt
          have zzbR := hAbR.lt
          have zzbT := hAbT.lt
          go_simp
          first | refine oA hK ?_ (fun hH hA => ?_) | refine oD hK ?_ (fun hH hA => ?_)
          · exact ⟨hH.1.alloc _, hH.2.1.alloc _, hH.2.2.1.alloc _, hH.2.2.2.1.alloc _, hH.2.2.2.2.1.alloc _, hH.2.2.2.2.2.1.alloc _, hH.2.2.2.2.2.2.1.imp fun _ h => h.alloc _, bwA (hH.2.2.2.2.2.2.2) (Nat.le_refl _) _⟩
          clear hK K
          (try simp only [cq])
          obtain ⟨bQ, hbA⟩ : ∃ b, Blk.num hA = b := ⟨_, rfl⟩
          obtain ⟨W, hW⟩ : ∃ V, Blk.wld hA = V := ⟨_, rfl⟩
          simp only [Blk.num] at hbA
          simp only [Blk.wld] at hW
          first | replace hAbP := awB hW hAbP | replace hAbP := awD hW hAbP
          first | replace hAbR := awB hW hAbR | replace hAbR := awD hW hAbR
          first | replace hAbT := awB hW hAbT | replace hAbT := awD hW hAbT
          rw [hW] at hH hA ⊢
          rw [hbA] at hA ⊢
          replace hNbQ1 : bs < bQ := (by rw [← hbA]; exact hNbQ1)
          have hPbPbQ : bP ≠ bQ := (by (try simp only [World.drew] at zzbP hbA); omega)
          have hPbQbR : bQ ≠ bR := (by (try simp only [World.drew] at zzbR hbA); omega)
          have hPbQbT : bQ ≠ bT := (by (try simp only [World.drew] at zzbT hbA); omega)
          clear hW hbA zzbP zzbR zzbT
          have hAbQ := hA
          clear hA
          refine tkY 18 (some 17) ?_ ?_ ?_
          rotate_left
          · intro w _; go_simp; (try with_reducible rfl)
          (try simp only [cq])
          refine tkY 19 (some 18) ?_ ?_ ?_
          rotate_left
          · intro w _; go_simp; (try with_reducible rfl)
          (try simp only [cq])
          refine tkY 20 (some 19) ?_ ?_ ?_
          rotate_left
          · intro w _; go_simp; (try with_reducible rfl)
          (try simp only [cq])
          exact X1_0123 t bP bQ bR bT W ⟨hH, hAbP, hAbQ, hAbR, hAbT, hNbP1, hNbQ1, hNbR1, hNbT1, hPbPbQ, hPbPbR, hPbPbT, hPbQbR, hPbQbT, hPbRbT⟩
          }
          }
          {
          intro t bP bQ bT W hall
          obtain ⟨hH, hAbP, hAbQ, hAbT, hNbP1, hNbQ1, hNbT1, hPbPbQ, hPbPbT, hPbQbT⟩ := hall
          (try dsimp only at hH)
          refine wpAnyH_ready (rs := [11]) (by kernel_rfl) (by simp) ?_
          refine arc1 (some 96) fun K hK => ?_
          have hNbR1 := hH.2.2.2.2.2.2.1.choose_spec.lt
          have zzbP := hAbP.lt
          have zzbQ := hAbQ.lt
          have zzbT := hAbT.lt
          go_simp
          first | refine oA hK ?_ (fun hH hA => ?_) | refine oD hK ?_ (fun hH hA => ?_)
          · exact ⟨hH.1.alloc _, hH.2.1.alloc _, hH.2.2.1.alloc _, hH.2.2.2.1.alloc _, hH.2.2.2.2.1.alloc _, hH.2.2.2.2.2.1.alloc _, hH.2.2.2.2.2.2.1.imp fun _ h => h.alloc _, bwA (hH.2.2.2.2.2.2.2) (Nat.le_refl _) _⟩
          clear hK K
          (try simp only [cq])
          obtain ⟨bR, hbA⟩ : ∃ b, Blk.num hA = b := ⟨_, rfl⟩
          obtain ⟨W, hW⟩ : ∃ V, Blk.wld hA = V := ⟨_, rfl⟩
          simp only [Blk.num] at hbA
          simp only [Blk.wld] at hW
          first | replace hAbP := awB hW hAbP | replace hAbP := awD hW hAbP
          first | replace hAbQ := awB hW hAbQ | replace hAbQ := awD hW hAbQ
          first | replace hAbT := awB hW hAbT | replace hAbT := awD hW hAbT
          rw [hW] at hH hA ⊢
          rw [hbA] at hA ⊢
          replace hNbR1 : bs < bR := (by rw [← hbA]; exact hNbR1)
          have hPbPbR : bP ≠ bR := (by (try simp only [World.drew] at zzbP hbA); omega)
          have hPbQbR : bQ ≠ bR := (by (try simp only [World.drew] at zzbQ hbA); omega)
          have hPbRbT : bR ≠ bT := (by (try simp only [World.drew] at zzbT hbA); omega)
          clear hW hbA zzbP zzbQ zzbT
          have hAbR := hA
          clear hA
          refine tkY 19 (some 18) ?_ ?_ ?_
          rotate_left
          · intro w _; go_simp; (try with_reducible rfl)
          (try simp only [cq])
          refine tkY 20 (some 19) ?_ ?_ ?_
          rotate_left
          · intro w _; go_simp; (try with_reducible rfl)
          (try simp only [cq])
          exact X1_0123 t bP bQ bR bT W ⟨hH, hAbP, hAbQ, hAbR, hAbT, hNbP1, hNbQ1, hNbR1, hNbT1, hPbPbQ, hPbPbR, hPbPbT, hPbQbR, hPbQbT, hPbRbT⟩
          }
          }
          {
          intro t bP bQ bR W hall
          obtain ⟨hH, hAbP, hAbQ, hAbR, hNbP1, hNbQ1, hNbR1, hPbPbQ, hPbPbR, hPbQbR⟩ := hall
          (try dsimp only at hH)
          refine wpAnyH_ready (rs := [16]) (by kernel_rfl) (by simp) ?_
          refine arc1 (some 101) fun K hK => ?_
          have hNbT1 := hH.2.2.2.2.2.2.1.choose_spec.lt
          have zzbP := hAbP.lt
          have zzbQ := hAbQ.lt
          have zzbR := hAbR.lt
          go_simp
          first | refine oA hK ?_ (fun hH hA => ?_) | refine oD hK ?_ (fun hH hA => ?_)
          · exact ⟨hH.1.alloc _, hH.2.1.alloc _, hH.2.2.1.alloc _, hH.2.2.2.1.alloc _, hH.2.2.2.2.1.alloc _, hH.2.2.2.2.2.1.alloc _, hH.2.2.2.2.2.2.1.imp fun _ h => h.alloc _, bwA (hH.2.2.2.2.2.2.2) (Nat.le_refl _) _⟩
          clear hK K
          (try simp only [cq])
          obtain ⟨bT, hbA⟩ : ∃ b, Blk.num hA = b := ⟨_, rfl⟩
          obtain ⟨W, hW⟩ : ∃ V, Blk.wld hA = V := ⟨_, rfl⟩
          simp only [Blk.num] at hbA
          simp only [Blk.wld] at hW
          first | replace hAbP := awB hW hAbP | replace hAbP := awD hW hAbP
          first | replace hAbQ := awB hW hAbQ | replace hAbQ := awD hW hAbQ
          first | replace hAbR := awB hW hAbR | replace hAbR := awD hW hAbR
          rw [hW] at hH hA ⊢
          rw [hbA] at hA ⊢
          replace hNbT1 : bs < bT := (by rw [← hbA]; exact hNbT1)
          have hPbPbT : bP ≠ bT := (by (try simp only [World.drew] at zzbP hbA); omega)
          have hPbQbT : bQ ≠ bT := (by (try simp only [World.drew] at zzbQ hbA); omega)
          have hPbRbT : bR ≠ bT := (by (try simp only [World.drew] at zzbR hbA); omega)
          clear hW hbA zzbP zzbQ zzbR
          have hAbT := hA
          clear hA
          refine tkY 20 (some 19) ?_ ?_ ?_
          rotate_left
          · intro w _; go_simp; (try with_reducible rfl)
          (try simp only [cq])
          exact X1_0123 t bP bQ bR bT W ⟨hH, hAbP, hAbQ, hAbR, hAbT, hNbP1, hNbQ1, hNbR1, hNbT1, hPbPbQ, hPbPbR, hPbPbT, hPbQbR, hPbQbT, hPbRbT⟩
          }
          }
          {
          intro t bP bQ bR bT W hall
          obtain ⟨hH, hAbP, hAbQ, hAbR, hAbT, hNbP1, hNbQ1, hNbR1, hNbT1, hPbPbQ, hPbPbR, hPbPbT, hPbQbR, hPbQbT, hPbRbT⟩ := hall
          (try dsimp only at hH)
          refine wpAnyH_done (by kernel_rfl) ?_ _
          (try dsimp only [Act.put])
          (try simp only [cq])
          obtain ⟨_, _, _, _, qO, qQ, _, kB⟩ := hH
          have rO2 := pairs_of_row qO
          have rQ2 := pairs_of_row qQ
          obtain ⟨qS, qC⟩ := HPar.out
          clear qO qQ
          go_wp2_with fail
          go_meet
          exact ⟨_, _, _, _, rfl, rfl, rfl, rfl, fun k hk => by
            obtain rfl | rfl | rfl : k = 0 ∨ k = 1 ∨ k = 2 := by omega
            · exact ⟨p, _, _, _, _, _, _, ⟨⟨hAbP.cell (0 * 11) rfl, hAbP.cell (0 * 11 + 1) rfl, hAbP.cell (0 * 11 + 2) rfl, hAbP.cell (0 * 11 + 3) rfl, hAbP.cell (0 * 11 + 4) rfl, hAbP.cell (0 * 11 + 5) rfl, hAbP.cell (0 * 11 + 6) rfl, hAbP.cell (0 * 11 + 7) rfl, hAbP.cell (0 * 11 + 8) rfl, hAbP.cell (0 * 11 + 9) rfl, hAbP.cell (0 * 11 + 10) rfl⟩, PairsAt.later qS kB, PairsAt.later qC kB⟩, hAbQ.cell 0 rfl, hAbQ.cell 1 rfl, hAbR.cell 0 rfl, hAbT.cell 0 rfl⟩
            · exact ⟨p2, _, _, _, _, _, _, ⟨⟨hAbP.cell (1 * 11) rfl, hAbP.cell (1 * 11 + 1) rfl, hAbP.cell (1 * 11 + 2) rfl, hAbP.cell (1 * 11 + 3) rfl, hAbP.cell (1 * 11 + 4) rfl, hAbP.cell (1 * 11 + 5) rfl, hAbP.cell (1 * 11 + 6) rfl, hAbP.cell (1 * 11 + 7) rfl, hAbP.cell (1 * 11 + 8) rfl, hAbP.cell (1 * 11 + 9) rfl, hAbP.cell (1 * 11 + 10) rfl⟩, rO2, rQ2⟩, hAbQ.cell 2 rfl, hAbQ.cell 3 rfl, hAbR.cell 1 rfl, hAbT.cell 1 rfl⟩
            · exact ⟨p2, _, _, _, _, _, _, ⟨⟨hAbP.cell (2 * 11) rfl, hAbP.cell (2 * 11 + 1) rfl, hAbP.cell (2 * 11 + 2) rfl, hAbP.cell (2 * 11 + 3) rfl, hAbP.cell (2 * 11 + 4) rfl, hAbP.cell (2 * 11 + 5) rfl, hAbP.cell (2 * 11 + 6) rfl, hAbP.cell (2 * 11 + 7) rfl, hAbP.cell (2 * 11 + 8) rfl, hAbP.cell (2 * 11 + 9) rfl, hAbP.cell (2 * 11 + 10) rfl⟩, rO2, rQ2⟩, hAbQ.cell 4 rfl, hAbQ.cell 5 rfl, hAbR.cell 2 rfl, hAbT.cell 2 rfl⟩, kB⟩
          }
        case rest =>
          as_aux_lemma =>
            clear jA jI jO jX rO rQ hS jB HPar HNm
            obtain ⟨b1, b2, b3, b4, rfl, rfl, rfl, rfl, hk, jB⟩ := hcut
            obtain ⟨V, hVV⟩ : ∃ V, V = wc := ⟨_, rfl⟩
            subst hVV
            have HRd := Lib.hid hk
            have HB := Lib.hid jB
            have HF := Below.refl V.heap.size V
            clear hk jB
            go_wp2_with fail
            go_loopw [20] (fun i wr => ∃ k : Nat, k ≤ 3 ∧ i = .int .i64 k ∧ Below V.heap.size V wr) (fun i _ => 3 - (intOf i).toNat)
            case atStart => exact ⟨0, by omega, rfl, HF⟩
            case round =>
              clear HF
              obtain ⟨k, hk, rfl, hB⟩ := hrel
              by_cases hlt2 : k < 3
              · obtain ⟨x, uS, uC, q1, q2, q3, q4, hP, hQ1, hQ2, hQ3, hQ4⟩ := HRd.out k hlt2
                have hk3 : (k : Int) < 3 := by omega
                have HP := Lib.hid hP
                have HQ1 := Lib.hid hQ1
                have HQ2 := Lib.hid hQ2
                have HQ3 := Lib.hid hQ3
                have HQ4 := Lib.hid hQ4
                have HG0 : Hid (∀ W, Below V.heap.size V W → Calls Try.prog 44 #[.agg #[.int .i64 x.s0, .int .i64 x.s1, uS, uC, .int .i64 x.ne, .int .i64 x.ed, .int .i64 x.gr, .int .i64 x.lo, .int .i64 x.hi, .int .i64 x.sh, .int .i64 x.wi], .agg #[.int .i64 q1, .int .i64 q2], .int .i64 q3, .int .i64 q4] W fun e w' => e = .returned (.tuple #[.int .i64 (if eSpd x q1 q2 q3 q4 = 0 then calmV x q1 q2 q3 q4 else 0), .int .i64 (eSpd x q1 q2 q3 q4)]) ∧ Below W.heap.size W w') := fun W hW => (speed_any x uS uC q1 q2 q3 q4 W (PairsAt.later hP.S hW) (PairsAt.later hP.C hW)).mono fun e w' ⟨r, h1, h2, h3, h4⟩ => by
                  have hr : r = if eSpd x q1 q2 q3 q4 = 0 then calmV x q1 q2 q3 q4 else 0 := by
                    by_cases c : eSpd x q1 q2 q3 q4 = 0
                    · rw [if_pos c]; exact h2 c
                    · rw [if_neg c]; exact h3 c
                  rw [← hr]
                  exact ⟨h1, h4⟩
                have HG1 : Hid (∀ W, Below V.heap.size V W → Calls Try.prog 45 #[.agg #[.int .i64 x.s0, .int .i64 x.s1, uS, uC, .int .i64 x.ne, .int .i64 x.ed, .int .i64 x.gr, .int .i64 x.lo, .int .i64 x.hi, .int .i64 x.sh, .int .i64 x.wi], .agg #[.int .i64 q1, .int .i64 q2], .int .i64 q3, .int .i64 q4] W fun e w' => e = .returned (.tuple #[.int .i64 (if eSpd x q1 q2 q3 q4 = 0 then calmV x q1 q2 q3 q4 else 0), .int .i64 (eSpd x q1 q2 q3 q4)]) ∧ Below W.heap.size W w') := fun W hW => rspeed_any x uS uC q1 q2 q3 q4 W (PairsAt.later hP.S hW) (PairsAt.later hP.C hW)
                have HG2 : Hid (∀ W, Below V.heap.size V W → Calls Try.prog 46 #[.agg #[.int .i64 x.s0, .int .i64 x.s1, uS, uC, .int .i64 x.ne, .int .i64 x.ed, .int .i64 x.gr, .int .i64 x.lo, .int .i64 x.hi, .int .i64 x.sh, .int .i64 x.wi], .agg #[.int .i64 q1, .int .i64 q2], .int .i64 q3] W fun e w' => ∃ u, e = .returned (.tuple #[u, .int .i64 (eWav x q1 q2 q3)]) ∧ PairsAt w' u (spdS x q1 q2 q3).m (spdS x q1 q2 q3).A (spdS x q1 q2 q3).B ∧ Below W.heap.size W w') := fun W hW => speeds_any x uS uC q1 q2 q3 W (PairsAt.later hP.S hW) (PairsAt.later hP.C hW)
                have HG3 : Hid (∀ W, Below V.heap.size V W → Calls Try.prog 47 #[.agg #[.int .i64 x.s0, .int .i64 x.s1, uS, uC, .int .i64 x.ne, .int .i64 x.ed, .int .i64 x.gr, .int .i64 x.lo, .int .i64 x.hi, .int .i64 x.sh, .int .i64 x.wi], .agg #[.int .i64 q1, .int .i64 q2], .int .i64 q3] W fun e w' => ∃ u, e = .returned (.tuple #[u, .int .i64 (eWav x q1 q2 q3)]) ∧ PairsAt w' u (spdS x q1 q2 q3).m (spdS x q1 q2 q3).A (spdS x q1 q2 q3).B ∧ Below W.heap.size W w') := fun W hW => rspeeds_any x uS uC q1 q2 q3 W (PairsAt.later hP.S hW) (PairsAt.later hP.C hW)
                obtain ⟨r1, hr1⟩ : ∃ r1, (if eSpd x q1 q2 q3 q4 = 0 then calmV x q1 q2 q3 q4 else 0) = r1 := ⟨_, rfl⟩
                rw [hr1] at HG0 HG1
                generalize eSpd x q1 q2 q3 q4 = f1 at HG0 HG1
                generalize spdS x q1 q2 q3 = sp at HG2 HG3
                generalize eWav x q1 q2 q3 = f2 at HG2 HG3
                clear hr1
                clear hP hQ1 hQ2 hQ3 hQ4 HRd
                go_upto_region 11 with fail
                refine wp_region_held_drew (S := (fun v => Below V.heap.size V v)) (by kernel_rfl) ?_ (fun hH => ?_)
                · (try dsimp only); (exact hB.drew)
                refine tkY 0 (some 109) ?_ ?_ ?_
                rotate_left
                · intro w _; go_simp; (try with_reducible rfl)
                (try simp only [cq])
                refine tkY 1 (some 110) ?_ ?_ ?_
                rotate_left
                · intro w _; go_simp; (try with_reducible rfl)
                (try simp only [cq])
                refine tkY 2 (some 111) ?_ ?_ ?_
                rotate_left
                · intro w hS0; (try dsimp only at hS0); have kB := hS0; have c0 := cell_later kB HP.out.c.1; have c1 := cell_later kB HP.out.c.2.1; have c2 := cell_later kB HP.out.c.2.2.1; have c3 := cell_later kB HP.out.c.2.2.2.1; have c4 := cell_later kB HP.out.c.2.2.2.2.1; have c5 := cell_later kB HP.out.c.2.2.2.2.2.1; have c6 := cell_later kB HP.out.c.2.2.2.2.2.2.1; have c7 := cell_later kB HP.out.c.2.2.2.2.2.2.2.1; have c8 := cell_later kB HP.out.c.2.2.2.2.2.2.2.2.1; have c9 := cell_later kB HP.out.c.2.2.2.2.2.2.2.2.2.1; have c10 := cell_later kB HP.out.c.2.2.2.2.2.2.2.2.2.2; have s0 := cell_later kB HQ1.out; have s1 := cell_later kB HQ2.out; have t0 := cell_later kB HQ3.out; have u0 := cell_later kB HQ4.out; have y1 := World.block_lt_of_cell? _ _ c0; have y2 := World.block_lt_of_cell? _ _ s0; have y3 := World.block_lt_of_cell? _ _ t0; have y4 := World.block_lt_of_cell? _ _ u0;go_simp; (try with_reducible rfl)
                (try simp only [cq])
                refine tkY 3 (some 112) ?_ ?_ ?_
                rotate_left
                · intro w hS0; (try dsimp only at hS0); have kB := hS0; have c0 := cell_later kB HP.out.c.1; have c1 := cell_later kB HP.out.c.2.1; have c2 := cell_later kB HP.out.c.2.2.1; have c3 := cell_later kB HP.out.c.2.2.2.1; have c4 := cell_later kB HP.out.c.2.2.2.2.1; have c5 := cell_later kB HP.out.c.2.2.2.2.2.1; have c6 := cell_later kB HP.out.c.2.2.2.2.2.2.1; have c7 := cell_later kB HP.out.c.2.2.2.2.2.2.2.1; have c8 := cell_later kB HP.out.c.2.2.2.2.2.2.2.2.1; have c9 := cell_later kB HP.out.c.2.2.2.2.2.2.2.2.2.1; have c10 := cell_later kB HP.out.c.2.2.2.2.2.2.2.2.2.2; have s0 := cell_later kB HQ1.out; have s1 := cell_later kB HQ2.out; have t0 := cell_later kB HQ3.out; have u0 := cell_later kB HQ4.out; have y1 := World.block_lt_of_cell? _ _ c0; have y2 := World.block_lt_of_cell? _ _ s0; have y3 := World.block_lt_of_cell? _ _ t0; have y4 := World.block_lt_of_cell? _ _ u0;go_simp; (try with_reducible rfl)
                (try simp only [cq])
                refine tkY 4 (some 113) ?_ ?_ ?_
                rotate_left
                · intro w _; go_simp; (try with_reducible rfl)
                (try simp only [cq])
                refine tkY 5 (some 114) ?_ ?_ ?_
                rotate_left
                · intro w _; go_simp; (try with_reducible rfl)
                (try simp only [cq])
                refine tkY 6 (some 115) ?_ ?_ ?_
                rotate_left
                · intro w hS0; (try dsimp only at hS0); have kB := hS0; have c0 := cell_later kB HP.out.c.1; have c1 := cell_later kB HP.out.c.2.1; have c2 := cell_later kB HP.out.c.2.2.1; have c3 := cell_later kB HP.out.c.2.2.2.1; have c4 := cell_later kB HP.out.c.2.2.2.2.1; have c5 := cell_later kB HP.out.c.2.2.2.2.2.1; have c6 := cell_later kB HP.out.c.2.2.2.2.2.2.1; have c7 := cell_later kB HP.out.c.2.2.2.2.2.2.2.1; have c8 := cell_later kB HP.out.c.2.2.2.2.2.2.2.2.1; have c9 := cell_later kB HP.out.c.2.2.2.2.2.2.2.2.2.1; have c10 := cell_later kB HP.out.c.2.2.2.2.2.2.2.2.2.2; have s0 := cell_later kB HQ1.out; have s1 := cell_later kB HQ2.out; have t0 := cell_later kB HQ3.out; have u0 := cell_later kB HQ4.out; have y1 := World.block_lt_of_cell? _ _ c0; have y2 := World.block_lt_of_cell? _ _ s0; have y3 := World.block_lt_of_cell? _ _ t0; have y4 := World.block_lt_of_cell? _ _ u0;go_simp; (try with_reducible rfl)
                (try simp only [cq])
                refine tkY 7 (some 116) ?_ ?_ ?_
                rotate_left
                · intro w hS0; (try dsimp only at hS0); have kB := hS0; have c0 := cell_later kB HP.out.c.1; have c1 := cell_later kB HP.out.c.2.1; have c2 := cell_later kB HP.out.c.2.2.1; have c3 := cell_later kB HP.out.c.2.2.2.1; have c4 := cell_later kB HP.out.c.2.2.2.2.1; have c5 := cell_later kB HP.out.c.2.2.2.2.2.1; have c6 := cell_later kB HP.out.c.2.2.2.2.2.2.1; have c7 := cell_later kB HP.out.c.2.2.2.2.2.2.2.1; have c8 := cell_later kB HP.out.c.2.2.2.2.2.2.2.2.1; have c9 := cell_later kB HP.out.c.2.2.2.2.2.2.2.2.2.1; have c10 := cell_later kB HP.out.c.2.2.2.2.2.2.2.2.2.2; have s0 := cell_later kB HQ1.out; have s1 := cell_later kB HQ2.out; have t0 := cell_later kB HQ3.out; have u0 := cell_later kB HQ4.out; have y1 := World.block_lt_of_cell? _ _ c0; have y2 := World.block_lt_of_cell? _ _ s0; have y3 := World.block_lt_of_cell? _ _ t0; have y4 := World.block_lt_of_cell? _ _ u0;go_simp; (try with_reducible rfl)
                (try simp only [cq])
                refine tkY 8 (some 117) ?_ ?_ ?_
                rotate_left
                · intro w _; go_simp; (try with_reducible rfl)
                (try simp only [cq])
                refine tkY 9 (some 118) ?_ ?_ ?_
                rotate_left
                · intro w _; go_simp; (try with_reducible rfl)
                (try simp only [cq])
                refine tkY 10 (some 119) ?_ ?_ ?_
                rotate_left
                · intro w hS0; (try dsimp only at hS0); have kB := hS0; have c0 := cell_later kB HP.out.c.1; have c1 := cell_later kB HP.out.c.2.1; have c2 := cell_later kB HP.out.c.2.2.1; have c3 := cell_later kB HP.out.c.2.2.2.1; have c4 := cell_later kB HP.out.c.2.2.2.2.1; have c5 := cell_later kB HP.out.c.2.2.2.2.2.1; have c6 := cell_later kB HP.out.c.2.2.2.2.2.2.1; have c7 := cell_later kB HP.out.c.2.2.2.2.2.2.2.1; have c8 := cell_later kB HP.out.c.2.2.2.2.2.2.2.2.1; have c9 := cell_later kB HP.out.c.2.2.2.2.2.2.2.2.2.1; have c10 := cell_later kB HP.out.c.2.2.2.2.2.2.2.2.2.2; have s0 := cell_later kB HQ1.out; have s1 := cell_later kB HQ2.out; have t0 := cell_later kB HQ3.out; have u0 := cell_later kB HQ4.out; have y1 := World.block_lt_of_cell? _ _ c0; have y2 := World.block_lt_of_cell? _ _ s0; have y3 := World.block_lt_of_cell? _ _ t0; have y4 := World.block_lt_of_cell? _ _ u0;go_simp; (try with_reducible rfl)
                (try simp only [cq])
                refine tkY 11 (some 120) ?_ ?_ ?_
                rotate_left
                · intro w hS0; (try dsimp only at hS0); have kB := hS0; have c0 := cell_later kB HP.out.c.1; have c1 := cell_later kB HP.out.c.2.1; have c2 := cell_later kB HP.out.c.2.2.1; have c3 := cell_later kB HP.out.c.2.2.2.1; have c4 := cell_later kB HP.out.c.2.2.2.2.1; have c5 := cell_later kB HP.out.c.2.2.2.2.2.1; have c6 := cell_later kB HP.out.c.2.2.2.2.2.2.1; have c7 := cell_later kB HP.out.c.2.2.2.2.2.2.2.1; have c8 := cell_later kB HP.out.c.2.2.2.2.2.2.2.2.1; have c9 := cell_later kB HP.out.c.2.2.2.2.2.2.2.2.2.1; have c10 := cell_later kB HP.out.c.2.2.2.2.2.2.2.2.2.2; have s0 := cell_later kB HQ1.out; have s1 := cell_later kB HQ2.out; have t0 := cell_later kB HQ3.out; have u0 := cell_later kB HQ4.out; have y1 := World.block_lt_of_cell? _ _ c0; have y2 := World.block_lt_of_cell? _ _ s0; have y3 := World.block_lt_of_cell? _ _ t0; have y4 := World.block_lt_of_cell? _ _ u0;go_simp; (try with_reducible rfl)
                (try simp only [cq])
                refine tkY 12 (some 121) ?_ ?_ ?_
                rotate_left
                · intro w _; go_simp; (try with_reducible rfl)
                (try simp only [cq])
                refine tkY 13 (some 122) ?_ ?_ ?_
                rotate_left
                · intro w _; go_simp; (try with_reducible rfl)
                (try simp only [cq])
                refine tkY 14 (some 123) ?_ ?_ ?_
                rotate_left
                · intro w hS0; (try dsimp only at hS0); have kB := hS0; have c0 := cell_later kB HP.out.c.1; have c1 := cell_later kB HP.out.c.2.1; have c2 := cell_later kB HP.out.c.2.2.1; have c3 := cell_later kB HP.out.c.2.2.2.1; have c4 := cell_later kB HP.out.c.2.2.2.2.1; have c5 := cell_later kB HP.out.c.2.2.2.2.2.1; have c6 := cell_later kB HP.out.c.2.2.2.2.2.2.1; have c7 := cell_later kB HP.out.c.2.2.2.2.2.2.2.1; have c8 := cell_later kB HP.out.c.2.2.2.2.2.2.2.2.1; have c9 := cell_later kB HP.out.c.2.2.2.2.2.2.2.2.2.1; have c10 := cell_later kB HP.out.c.2.2.2.2.2.2.2.2.2.2; have s0 := cell_later kB HQ1.out; have s1 := cell_later kB HQ2.out; have t0 := cell_later kB HQ3.out; have u0 := cell_later kB HQ4.out; have y1 := World.block_lt_of_cell? _ _ c0; have y2 := World.block_lt_of_cell? _ _ s0; have y3 := World.block_lt_of_cell? _ _ t0; have y4 := World.block_lt_of_cell? _ _ u0;go_simp; (try with_reducible rfl)
                (try simp only [cq])
                refine tkY 15 (some 124) ?_ ?_ ?_
                rotate_left
                · intro w hS0; (try dsimp only at hS0); have kB := hS0; have c0 := cell_later kB HP.out.c.1; have c1 := cell_later kB HP.out.c.2.1; have c2 := cell_later kB HP.out.c.2.2.1; have c3 := cell_later kB HP.out.c.2.2.2.1; have c4 := cell_later kB HP.out.c.2.2.2.2.1; have c5 := cell_later kB HP.out.c.2.2.2.2.2.1; have c6 := cell_later kB HP.out.c.2.2.2.2.2.2.1; have c7 := cell_later kB HP.out.c.2.2.2.2.2.2.2.1; have c8 := cell_later kB HP.out.c.2.2.2.2.2.2.2.2.1; have c9 := cell_later kB HP.out.c.2.2.2.2.2.2.2.2.2.1; have c10 := cell_later kB HP.out.c.2.2.2.2.2.2.2.2.2.2; have s0 := cell_later kB HQ1.out; have s1 := cell_later kB HQ2.out; have t0 := cell_later kB HQ3.out; have u0 := cell_later kB HQ4.out; have y1 := World.block_lt_of_cell? _ _ c0; have y2 := World.block_lt_of_cell? _ _ s0; have y3 := World.block_lt_of_cell? _ _ t0; have y4 := World.block_lt_of_cell? _ _ u0;go_simp; (try with_reducible rfl)
                (try simp only [cq])
                refine wpAnyH_ready (rs := [16]) (by kernel_rfl) (by simp) ?_
                refine arc1 (some 125) fun K hK => ?_
                go_simp
                (refine (HG0.out _ hH).mono ?_; rintro e w' ⟨rfl, hb⟩)
                refine hK.out _ _ ?_ ?_
                · (exact bwS hH (Nat.le_refl _) hb)
                (try clear hH); (try clear hb)
                intro hH
                clear hK K
                (try simp only [cq])
                refine tkY 17 (some 108) ?_ ?_ ?_
                rotate_left
                · intro w _; go_simp; (try with_reducible rfl)
                (try simp only [cq])
                refine tkY 18 (some 126) ?_ ?_ ?_
                rotate_left
                · intro w _; go_simp; (try with_reducible rfl)
                (try simp only [cq])
                refine tkY 19 (some 127) ?_ ?_ ?_
                rotate_left
                · intro w _; go_simp; (try with_reducible rfl)
                (try simp only [cq])
                refine tkY 20 (some 21) ?_ ?_ ?_
                rotate_left
                · intro w _; go_simp; (try with_reducible rfl)
                (try simp only [cq])
                refine tkY 21 (some 22) ?_ ?_ ?_
                rotate_left
                · intro w _; go_simp; (try with_reducible rfl)
                (try simp only [cq])
                refine wpAnyH_done (by kernel_rfl) ?_ _
                (try dsimp only [Act.put])
                (try simp only [cq])
                clear hB HG0
                have hB := hH
                clear hH
                go_upto_region 12 with fail
                refine wp_region_held_drew (S := (fun v => Below V.heap.size V v)) (by kernel_rfl) ?_ (fun hH => ?_)
                · (try dsimp only); (exact hB.drew)
                refine tkY 0 (some 129) ?_ ?_ ?_
                rotate_left
                · intro w _; go_simp; (try with_reducible rfl)
                (try simp only [cq])
                refine tkY 1 (some 130) ?_ ?_ ?_
                rotate_left
                · intro w _; go_simp; (try with_reducible rfl)
                (try simp only [cq])
                refine tkY 2 (some 131) ?_ ?_ ?_
                rotate_left
                · intro w hS0; (try dsimp only at hS0); have kB := hS0; have c0 := cell_later kB HP.out.c.1; have c1 := cell_later kB HP.out.c.2.1; have c2 := cell_later kB HP.out.c.2.2.1; have c3 := cell_later kB HP.out.c.2.2.2.1; have c4 := cell_later kB HP.out.c.2.2.2.2.1; have c5 := cell_later kB HP.out.c.2.2.2.2.2.1; have c6 := cell_later kB HP.out.c.2.2.2.2.2.2.1; have c7 := cell_later kB HP.out.c.2.2.2.2.2.2.2.1; have c8 := cell_later kB HP.out.c.2.2.2.2.2.2.2.2.1; have c9 := cell_later kB HP.out.c.2.2.2.2.2.2.2.2.2.1; have c10 := cell_later kB HP.out.c.2.2.2.2.2.2.2.2.2.2; have s0 := cell_later kB HQ1.out; have s1 := cell_later kB HQ2.out; have t0 := cell_later kB HQ3.out; have u0 := cell_later kB HQ4.out; have y1 := World.block_lt_of_cell? _ _ c0; have y2 := World.block_lt_of_cell? _ _ s0; have y3 := World.block_lt_of_cell? _ _ t0; have y4 := World.block_lt_of_cell? _ _ u0;go_simp; (try with_reducible rfl)
                (try simp only [cq])
                refine tkY 3 (some 132) ?_ ?_ ?_
                rotate_left
                · intro w hS0; (try dsimp only at hS0); have kB := hS0; have c0 := cell_later kB HP.out.c.1; have c1 := cell_later kB HP.out.c.2.1; have c2 := cell_later kB HP.out.c.2.2.1; have c3 := cell_later kB HP.out.c.2.2.2.1; have c4 := cell_later kB HP.out.c.2.2.2.2.1; have c5 := cell_later kB HP.out.c.2.2.2.2.2.1; have c6 := cell_later kB HP.out.c.2.2.2.2.2.2.1; have c7 := cell_later kB HP.out.c.2.2.2.2.2.2.2.1; have c8 := cell_later kB HP.out.c.2.2.2.2.2.2.2.2.1; have c9 := cell_later kB HP.out.c.2.2.2.2.2.2.2.2.2.1; have c10 := cell_later kB HP.out.c.2.2.2.2.2.2.2.2.2.2; have s0 := cell_later kB HQ1.out; have s1 := cell_later kB HQ2.out; have t0 := cell_later kB HQ3.out; have u0 := cell_later kB HQ4.out; have y1 := World.block_lt_of_cell? _ _ c0; have y2 := World.block_lt_of_cell? _ _ s0; have y3 := World.block_lt_of_cell? _ _ t0; have y4 := World.block_lt_of_cell? _ _ u0;go_simp; (try with_reducible rfl)
                (try simp only [cq])
                refine tkY 4 (some 133) ?_ ?_ ?_
                rotate_left
                · intro w _; go_simp; (try with_reducible rfl)
                (try simp only [cq])
                refine tkY 5 (some 134) ?_ ?_ ?_
                rotate_left
                · intro w _; go_simp; (try with_reducible rfl)
                (try simp only [cq])
                refine tkY 6 (some 135) ?_ ?_ ?_
                rotate_left
                · intro w hS0; (try dsimp only at hS0); have kB := hS0; have c0 := cell_later kB HP.out.c.1; have c1 := cell_later kB HP.out.c.2.1; have c2 := cell_later kB HP.out.c.2.2.1; have c3 := cell_later kB HP.out.c.2.2.2.1; have c4 := cell_later kB HP.out.c.2.2.2.2.1; have c5 := cell_later kB HP.out.c.2.2.2.2.2.1; have c6 := cell_later kB HP.out.c.2.2.2.2.2.2.1; have c7 := cell_later kB HP.out.c.2.2.2.2.2.2.2.1; have c8 := cell_later kB HP.out.c.2.2.2.2.2.2.2.2.1; have c9 := cell_later kB HP.out.c.2.2.2.2.2.2.2.2.2.1; have c10 := cell_later kB HP.out.c.2.2.2.2.2.2.2.2.2.2; have s0 := cell_later kB HQ1.out; have s1 := cell_later kB HQ2.out; have t0 := cell_later kB HQ3.out; have u0 := cell_later kB HQ4.out; have y1 := World.block_lt_of_cell? _ _ c0; have y2 := World.block_lt_of_cell? _ _ s0; have y3 := World.block_lt_of_cell? _ _ t0; have y4 := World.block_lt_of_cell? _ _ u0;go_simp; (try with_reducible rfl)
                (try simp only [cq])
                refine tkY 7 (some 136) ?_ ?_ ?_
                rotate_left
                · intro w hS0; (try dsimp only at hS0); have kB := hS0; have c0 := cell_later kB HP.out.c.1; have c1 := cell_later kB HP.out.c.2.1; have c2 := cell_later kB HP.out.c.2.2.1; have c3 := cell_later kB HP.out.c.2.2.2.1; have c4 := cell_later kB HP.out.c.2.2.2.2.1; have c5 := cell_later kB HP.out.c.2.2.2.2.2.1; have c6 := cell_later kB HP.out.c.2.2.2.2.2.2.1; have c7 := cell_later kB HP.out.c.2.2.2.2.2.2.2.1; have c8 := cell_later kB HP.out.c.2.2.2.2.2.2.2.2.1; have c9 := cell_later kB HP.out.c.2.2.2.2.2.2.2.2.2.1; have c10 := cell_later kB HP.out.c.2.2.2.2.2.2.2.2.2.2; have s0 := cell_later kB HQ1.out; have s1 := cell_later kB HQ2.out; have t0 := cell_later kB HQ3.out; have u0 := cell_later kB HQ4.out; have y1 := World.block_lt_of_cell? _ _ c0; have y2 := World.block_lt_of_cell? _ _ s0; have y3 := World.block_lt_of_cell? _ _ t0; have y4 := World.block_lt_of_cell? _ _ u0;go_simp; (try with_reducible rfl)
                (try simp only [cq])
                refine tkY 8 (some 137) ?_ ?_ ?_
                rotate_left
                · intro w _; go_simp; (try with_reducible rfl)
                (try simp only [cq])
                refine tkY 9 (some 138) ?_ ?_ ?_
                rotate_left
                · intro w _; go_simp; (try with_reducible rfl)
                (try simp only [cq])
                refine tkY 10 (some 139) ?_ ?_ ?_
                rotate_left
                · intro w hS0; (try dsimp only at hS0); have kB := hS0; have c0 := cell_later kB HP.out.c.1; have c1 := cell_later kB HP.out.c.2.1; have c2 := cell_later kB HP.out.c.2.2.1; have c3 := cell_later kB HP.out.c.2.2.2.1; have c4 := cell_later kB HP.out.c.2.2.2.2.1; have c5 := cell_later kB HP.out.c.2.2.2.2.2.1; have c6 := cell_later kB HP.out.c.2.2.2.2.2.2.1; have c7 := cell_later kB HP.out.c.2.2.2.2.2.2.2.1; have c8 := cell_later kB HP.out.c.2.2.2.2.2.2.2.2.1; have c9 := cell_later kB HP.out.c.2.2.2.2.2.2.2.2.2.1; have c10 := cell_later kB HP.out.c.2.2.2.2.2.2.2.2.2.2; have s0 := cell_later kB HQ1.out; have s1 := cell_later kB HQ2.out; have t0 := cell_later kB HQ3.out; have u0 := cell_later kB HQ4.out; have y1 := World.block_lt_of_cell? _ _ c0; have y2 := World.block_lt_of_cell? _ _ s0; have y3 := World.block_lt_of_cell? _ _ t0; have y4 := World.block_lt_of_cell? _ _ u0;go_simp; (try with_reducible rfl)
                (try simp only [cq])
                refine tkY 11 (some 140) ?_ ?_ ?_
                rotate_left
                · intro w hS0; (try dsimp only at hS0); have kB := hS0; have c0 := cell_later kB HP.out.c.1; have c1 := cell_later kB HP.out.c.2.1; have c2 := cell_later kB HP.out.c.2.2.1; have c3 := cell_later kB HP.out.c.2.2.2.1; have c4 := cell_later kB HP.out.c.2.2.2.2.1; have c5 := cell_later kB HP.out.c.2.2.2.2.2.1; have c6 := cell_later kB HP.out.c.2.2.2.2.2.2.1; have c7 := cell_later kB HP.out.c.2.2.2.2.2.2.2.1; have c8 := cell_later kB HP.out.c.2.2.2.2.2.2.2.2.1; have c9 := cell_later kB HP.out.c.2.2.2.2.2.2.2.2.2.1; have c10 := cell_later kB HP.out.c.2.2.2.2.2.2.2.2.2.2; have s0 := cell_later kB HQ1.out; have s1 := cell_later kB HQ2.out; have t0 := cell_later kB HQ3.out; have u0 := cell_later kB HQ4.out; have y1 := World.block_lt_of_cell? _ _ c0; have y2 := World.block_lt_of_cell? _ _ s0; have y3 := World.block_lt_of_cell? _ _ t0; have y4 := World.block_lt_of_cell? _ _ u0;go_simp; (try with_reducible rfl)
                (try simp only [cq])
                refine tkY 12 (some 141) ?_ ?_ ?_
                rotate_left
                · intro w _; go_simp; (try with_reducible rfl)
                (try simp only [cq])
                refine tkY 13 (some 142) ?_ ?_ ?_
                rotate_left
                · intro w _; go_simp; (try with_reducible rfl)
                (try simp only [cq])
                refine tkY 14 (some 143) ?_ ?_ ?_
                rotate_left
                · intro w hS0; (try dsimp only at hS0); have kB := hS0; have c0 := cell_later kB HP.out.c.1; have c1 := cell_later kB HP.out.c.2.1; have c2 := cell_later kB HP.out.c.2.2.1; have c3 := cell_later kB HP.out.c.2.2.2.1; have c4 := cell_later kB HP.out.c.2.2.2.2.1; have c5 := cell_later kB HP.out.c.2.2.2.2.2.1; have c6 := cell_later kB HP.out.c.2.2.2.2.2.2.1; have c7 := cell_later kB HP.out.c.2.2.2.2.2.2.2.1; have c8 := cell_later kB HP.out.c.2.2.2.2.2.2.2.2.1; have c9 := cell_later kB HP.out.c.2.2.2.2.2.2.2.2.2.1; have c10 := cell_later kB HP.out.c.2.2.2.2.2.2.2.2.2.2; have s0 := cell_later kB HQ1.out; have s1 := cell_later kB HQ2.out; have t0 := cell_later kB HQ3.out; have u0 := cell_later kB HQ4.out; have y1 := World.block_lt_of_cell? _ _ c0; have y2 := World.block_lt_of_cell? _ _ s0; have y3 := World.block_lt_of_cell? _ _ t0; have y4 := World.block_lt_of_cell? _ _ u0;go_simp; (try with_reducible rfl)
                (try simp only [cq])
                refine tkY 15 (some 144) ?_ ?_ ?_
                rotate_left
                · intro w hS0; (try dsimp only at hS0); have kB := hS0; have c0 := cell_later kB HP.out.c.1; have c1 := cell_later kB HP.out.c.2.1; have c2 := cell_later kB HP.out.c.2.2.1; have c3 := cell_later kB HP.out.c.2.2.2.1; have c4 := cell_later kB HP.out.c.2.2.2.2.1; have c5 := cell_later kB HP.out.c.2.2.2.2.2.1; have c6 := cell_later kB HP.out.c.2.2.2.2.2.2.1; have c7 := cell_later kB HP.out.c.2.2.2.2.2.2.2.1; have c8 := cell_later kB HP.out.c.2.2.2.2.2.2.2.2.1; have c9 := cell_later kB HP.out.c.2.2.2.2.2.2.2.2.2.1; have c10 := cell_later kB HP.out.c.2.2.2.2.2.2.2.2.2.2; have s0 := cell_later kB HQ1.out; have s1 := cell_later kB HQ2.out; have t0 := cell_later kB HQ3.out; have u0 := cell_later kB HQ4.out; have y1 := World.block_lt_of_cell? _ _ c0; have y2 := World.block_lt_of_cell? _ _ s0; have y3 := World.block_lt_of_cell? _ _ t0; have y4 := World.block_lt_of_cell? _ _ u0;go_simp; (try with_reducible rfl)
                (try simp only [cq])
                refine wpAnyH_ready (rs := [16]) (by kernel_rfl) (by simp) ?_
                refine arc1 (some 145) fun K hK => ?_
                go_simp
                (refine (HG1.out _ hH).mono ?_; rintro e w' ⟨rfl, hb⟩)
                refine hK.out _ _ ?_ ?_
                · (exact bwS hH (Nat.le_refl _) hb)
                (try clear hH); (try clear hb)
                intro hH
                clear hK K
                (try simp only [cq])
                refine tkY 17 (some 128) ?_ ?_ ?_
                rotate_left
                · intro w _; go_simp; (try with_reducible rfl)
                (try simp only [cq])
                refine tkY 18 (some 146) ?_ ?_ ?_
                rotate_left
                · intro w _; go_simp; (try with_reducible rfl)
                (try simp only [cq])
                refine tkY 19 (some 147) ?_ ?_ ?_
                rotate_left
                · intro w _; go_simp; (try with_reducible rfl)
                (try simp only [cq])
                refine tkY 20 (some 23) ?_ ?_ ?_
                rotate_left
                · intro w _; go_simp; (try with_reducible rfl)
                (try simp only [cq])
                refine tkY 21 (some 24) ?_ ?_ ?_
                rotate_left
                · intro w _; go_simp; (try with_reducible rfl)
                (try simp only [cq])
                refine wpAnyH_done (by kernel_rfl) ?_ _
                (try dsimp only [Act.put])
                (try simp only [cq])
                clear hB HG1
                have hB := hH
                clear hH
                go_upto_region 13 with fail
                refine wp_region_held_drew (S := (fun v => Below V.heap.size V v)) (by kernel_rfl) ?_ (fun hH => ?_)
                · (try dsimp only); (exact hB.drew)
                refine tkY 0 (some 149) ?_ ?_ ?_
                rotate_left
                · intro w _; go_simp; (try with_reducible rfl)
                (try simp only [cq])
                refine tkY 1 (some 150) ?_ ?_ ?_
                rotate_left
                · intro w _; go_simp; (try with_reducible rfl)
                (try simp only [cq])
                refine tkY 2 (some 151) ?_ ?_ ?_
                rotate_left
                · intro w hS0; (try dsimp only at hS0); have kB := hS0; have c0 := cell_later kB HP.out.c.1; have c1 := cell_later kB HP.out.c.2.1; have c2 := cell_later kB HP.out.c.2.2.1; have c3 := cell_later kB HP.out.c.2.2.2.1; have c4 := cell_later kB HP.out.c.2.2.2.2.1; have c5 := cell_later kB HP.out.c.2.2.2.2.2.1; have c6 := cell_later kB HP.out.c.2.2.2.2.2.2.1; have c7 := cell_later kB HP.out.c.2.2.2.2.2.2.2.1; have c8 := cell_later kB HP.out.c.2.2.2.2.2.2.2.2.1; have c9 := cell_later kB HP.out.c.2.2.2.2.2.2.2.2.2.1; have c10 := cell_later kB HP.out.c.2.2.2.2.2.2.2.2.2.2; have s0 := cell_later kB HQ1.out; have s1 := cell_later kB HQ2.out; have t0 := cell_later kB HQ3.out; have y1 := World.block_lt_of_cell? _ _ c0; have y2 := World.block_lt_of_cell? _ _ s0; have y3 := World.block_lt_of_cell? _ _ t0;go_simp; (try with_reducible rfl)
                (try simp only [cq])
                refine tkY 3 (some 152) ?_ ?_ ?_
                rotate_left
                · intro w hS0; (try dsimp only at hS0); have kB := hS0; have c0 := cell_later kB HP.out.c.1; have c1 := cell_later kB HP.out.c.2.1; have c2 := cell_later kB HP.out.c.2.2.1; have c3 := cell_later kB HP.out.c.2.2.2.1; have c4 := cell_later kB HP.out.c.2.2.2.2.1; have c5 := cell_later kB HP.out.c.2.2.2.2.2.1; have c6 := cell_later kB HP.out.c.2.2.2.2.2.2.1; have c7 := cell_later kB HP.out.c.2.2.2.2.2.2.2.1; have c8 := cell_later kB HP.out.c.2.2.2.2.2.2.2.2.1; have c9 := cell_later kB HP.out.c.2.2.2.2.2.2.2.2.2.1; have c10 := cell_later kB HP.out.c.2.2.2.2.2.2.2.2.2.2; have s0 := cell_later kB HQ1.out; have s1 := cell_later kB HQ2.out; have t0 := cell_later kB HQ3.out; have y1 := World.block_lt_of_cell? _ _ c0; have y2 := World.block_lt_of_cell? _ _ s0; have y3 := World.block_lt_of_cell? _ _ t0;go_simp; (try with_reducible rfl)
                (try simp only [cq])
                refine tkY 4 (some 153) ?_ ?_ ?_
                rotate_left
                · intro w _; go_simp; (try with_reducible rfl)
                (try simp only [cq])
                refine tkY 5 (some 154) ?_ ?_ ?_
                rotate_left
                · intro w _; go_simp; (try with_reducible rfl)
                (try simp only [cq])
                refine tkY 6 (some 155) ?_ ?_ ?_
                rotate_left
                · intro w hS0; (try dsimp only at hS0); have kB := hS0; have c0 := cell_later kB HP.out.c.1; have c1 := cell_later kB HP.out.c.2.1; have c2 := cell_later kB HP.out.c.2.2.1; have c3 := cell_later kB HP.out.c.2.2.2.1; have c4 := cell_later kB HP.out.c.2.2.2.2.1; have c5 := cell_later kB HP.out.c.2.2.2.2.2.1; have c6 := cell_later kB HP.out.c.2.2.2.2.2.2.1; have c7 := cell_later kB HP.out.c.2.2.2.2.2.2.2.1; have c8 := cell_later kB HP.out.c.2.2.2.2.2.2.2.2.1; have c9 := cell_later kB HP.out.c.2.2.2.2.2.2.2.2.2.1; have c10 := cell_later kB HP.out.c.2.2.2.2.2.2.2.2.2.2; have s0 := cell_later kB HQ1.out; have s1 := cell_later kB HQ2.out; have t0 := cell_later kB HQ3.out; have y1 := World.block_lt_of_cell? _ _ c0; have y2 := World.block_lt_of_cell? _ _ s0; have y3 := World.block_lt_of_cell? _ _ t0;go_simp; (try with_reducible rfl)
                (try simp only [cq])
                refine tkY 7 (some 156) ?_ ?_ ?_
                rotate_left
                · intro w hS0; (try dsimp only at hS0); have kB := hS0; have c0 := cell_later kB HP.out.c.1; have c1 := cell_later kB HP.out.c.2.1; have c2 := cell_later kB HP.out.c.2.2.1; have c3 := cell_later kB HP.out.c.2.2.2.1; have c4 := cell_later kB HP.out.c.2.2.2.2.1; have c5 := cell_later kB HP.out.c.2.2.2.2.2.1; have c6 := cell_later kB HP.out.c.2.2.2.2.2.2.1; have c7 := cell_later kB HP.out.c.2.2.2.2.2.2.2.1; have c8 := cell_later kB HP.out.c.2.2.2.2.2.2.2.2.1; have c9 := cell_later kB HP.out.c.2.2.2.2.2.2.2.2.2.1; have c10 := cell_later kB HP.out.c.2.2.2.2.2.2.2.2.2.2; have s0 := cell_later kB HQ1.out; have s1 := cell_later kB HQ2.out; have t0 := cell_later kB HQ3.out; have y1 := World.block_lt_of_cell? _ _ c0; have y2 := World.block_lt_of_cell? _ _ s0; have y3 := World.block_lt_of_cell? _ _ t0;go_simp; (try with_reducible rfl)
                (try simp only [cq])
                refine tkY 8 (some 157) ?_ ?_ ?_
                rotate_left
                · intro w _; go_simp; (try with_reducible rfl)
                (try simp only [cq])
                refine tkY 9 (some 158) ?_ ?_ ?_
                rotate_left
                · intro w _; go_simp; (try with_reducible rfl)
                (try simp only [cq])
                refine tkY 10 (some 159) ?_ ?_ ?_
                rotate_left
                · intro w hS0; (try dsimp only at hS0); have kB := hS0; have c0 := cell_later kB HP.out.c.1; have c1 := cell_later kB HP.out.c.2.1; have c2 := cell_later kB HP.out.c.2.2.1; have c3 := cell_later kB HP.out.c.2.2.2.1; have c4 := cell_later kB HP.out.c.2.2.2.2.1; have c5 := cell_later kB HP.out.c.2.2.2.2.2.1; have c6 := cell_later kB HP.out.c.2.2.2.2.2.2.1; have c7 := cell_later kB HP.out.c.2.2.2.2.2.2.2.1; have c8 := cell_later kB HP.out.c.2.2.2.2.2.2.2.2.1; have c9 := cell_later kB HP.out.c.2.2.2.2.2.2.2.2.2.1; have c10 := cell_later kB HP.out.c.2.2.2.2.2.2.2.2.2.2; have s0 := cell_later kB HQ1.out; have s1 := cell_later kB HQ2.out; have t0 := cell_later kB HQ3.out; have y1 := World.block_lt_of_cell? _ _ c0; have y2 := World.block_lt_of_cell? _ _ s0; have y3 := World.block_lt_of_cell? _ _ t0;go_simp; (try with_reducible rfl)
                (try simp only [cq])
                refine tkY 11 (some 160) ?_ ?_ ?_
                rotate_left
                · intro w hS0; (try dsimp only at hS0); have kB := hS0; have c0 := cell_later kB HP.out.c.1; have c1 := cell_later kB HP.out.c.2.1; have c2 := cell_later kB HP.out.c.2.2.1; have c3 := cell_later kB HP.out.c.2.2.2.1; have c4 := cell_later kB HP.out.c.2.2.2.2.1; have c5 := cell_later kB HP.out.c.2.2.2.2.2.1; have c6 := cell_later kB HP.out.c.2.2.2.2.2.2.1; have c7 := cell_later kB HP.out.c.2.2.2.2.2.2.2.1; have c8 := cell_later kB HP.out.c.2.2.2.2.2.2.2.2.1; have c9 := cell_later kB HP.out.c.2.2.2.2.2.2.2.2.2.1; have c10 := cell_later kB HP.out.c.2.2.2.2.2.2.2.2.2.2; have s0 := cell_later kB HQ1.out; have s1 := cell_later kB HQ2.out; have t0 := cell_later kB HQ3.out; have y1 := World.block_lt_of_cell? _ _ c0; have y2 := World.block_lt_of_cell? _ _ s0; have y3 := World.block_lt_of_cell? _ _ t0;go_simp; (try with_reducible rfl)
                (try simp only [cq])
                refine wpAnyH_ready (rs := [12]) (by kernel_rfl) (by simp) ?_
                refine arc1 (some 161) fun K hK => ?_
                go_simp
                (refine (HG2.out _ hH).mono ?_; rintro e w' ⟨u, rfl, hu, hb⟩)
                refine hK.out _ _ ?_ ?_
                · (exact bwS hH (Nat.le_refl _) hb)
                (try clear hH); (try clear hb)
                intro hH
                clear hK K
                (try simp only [cq])
                refine tkY 13 (some 148) ?_ ?_ ?_
                rotate_left
                · intro w _; go_simp; (try with_reducible rfl)
                (try simp only [cq])
                refine tkY 14 (some 162) ?_ ?_ ?_
                rotate_left
                · intro w _; go_simp; (try with_reducible rfl)
                (try simp only [cq])
                refine tkY 15 (some 163) ?_ ?_ ?_
                rotate_left
                · intro w _; go_simp; (try with_reducible rfl)
                (try simp only [cq])
                refine tkY 16 (some 25) ?_ ?_ ?_
                rotate_left
                · intro w _; go_simp; (try with_reducible rfl)
                (try simp only [cq])
                refine tkY 17 (some 26) ?_ ?_ ?_
                rotate_left
                · intro w _; go_simp; (try with_reducible rfl)
                (try simp only [cq])
                refine wpAnyH_done (by kernel_rfl) ?_ _
                (try dsimp only [Act.put])
                (try simp only [cq])
                clear hB HG2
                have hB := hH
                clear hH
                go_upto_region 14 with fail
                refine wp_region_held_drew (S := (fun v => Below V.heap.size V v ∧ PairsAt v u sp.m sp.A sp.B)) (by kernel_rfl) ?_ (fun hH => ?_)
                · (try dsimp only); (exact ⟨hB.drew, hu.later (Below.refl _ _).drew⟩)
                refine tkY 0 (some 165) ?_ ?_ ?_
                rotate_left
                · intro w _; go_simp; (try with_reducible rfl)
                (try simp only [cq])
                refine tkY 1 (some 166) ?_ ?_ ?_
                rotate_left
                · intro w _; go_simp; (try with_reducible rfl)
                (try simp only [cq])
                refine tkY 2 (some 167) ?_ ?_ ?_
                rotate_left
                · intro w hS0; (try dsimp only at hS0); have kB := hS0.1; have c0 := cell_later kB HP.out.c.1; have c1 := cell_later kB HP.out.c.2.1; have c2 := cell_later kB HP.out.c.2.2.1; have c3 := cell_later kB HP.out.c.2.2.2.1; have c4 := cell_later kB HP.out.c.2.2.2.2.1; have c5 := cell_later kB HP.out.c.2.2.2.2.2.1; have c6 := cell_later kB HP.out.c.2.2.2.2.2.2.1; have c7 := cell_later kB HP.out.c.2.2.2.2.2.2.2.1; have c8 := cell_later kB HP.out.c.2.2.2.2.2.2.2.2.1; have c9 := cell_later kB HP.out.c.2.2.2.2.2.2.2.2.2.1; have c10 := cell_later kB HP.out.c.2.2.2.2.2.2.2.2.2.2; have s0 := cell_later kB HQ1.out; have s1 := cell_later kB HQ2.out; have t0 := cell_later kB HQ3.out; have y1 := World.block_lt_of_cell? _ _ c0; have y2 := World.block_lt_of_cell? _ _ s0; have y3 := World.block_lt_of_cell? _ _ t0;go_simp; (try with_reducible rfl)
                (try simp only [cq])
                refine tkY 3 (some 168) ?_ ?_ ?_
                rotate_left
                · intro w hS0; (try dsimp only at hS0); have kB := hS0.1; have c0 := cell_later kB HP.out.c.1; have c1 := cell_later kB HP.out.c.2.1; have c2 := cell_later kB HP.out.c.2.2.1; have c3 := cell_later kB HP.out.c.2.2.2.1; have c4 := cell_later kB HP.out.c.2.2.2.2.1; have c5 := cell_later kB HP.out.c.2.2.2.2.2.1; have c6 := cell_later kB HP.out.c.2.2.2.2.2.2.1; have c7 := cell_later kB HP.out.c.2.2.2.2.2.2.2.1; have c8 := cell_later kB HP.out.c.2.2.2.2.2.2.2.2.1; have c9 := cell_later kB HP.out.c.2.2.2.2.2.2.2.2.2.1; have c10 := cell_later kB HP.out.c.2.2.2.2.2.2.2.2.2.2; have s0 := cell_later kB HQ1.out; have s1 := cell_later kB HQ2.out; have t0 := cell_later kB HQ3.out; have y1 := World.block_lt_of_cell? _ _ c0; have y2 := World.block_lt_of_cell? _ _ s0; have y3 := World.block_lt_of_cell? _ _ t0;go_simp; (try with_reducible rfl)
                (try simp only [cq])
                refine tkY 4 (some 169) ?_ ?_ ?_
                rotate_left
                · intro w _; go_simp; (try with_reducible rfl)
                (try simp only [cq])
                refine tkY 5 (some 170) ?_ ?_ ?_
                rotate_left
                · intro w _; go_simp; (try with_reducible rfl)
                (try simp only [cq])
                refine tkY 6 (some 171) ?_ ?_ ?_
                rotate_left
                · intro w hS0; (try dsimp only at hS0); have kB := hS0.1; have c0 := cell_later kB HP.out.c.1; have c1 := cell_later kB HP.out.c.2.1; have c2 := cell_later kB HP.out.c.2.2.1; have c3 := cell_later kB HP.out.c.2.2.2.1; have c4 := cell_later kB HP.out.c.2.2.2.2.1; have c5 := cell_later kB HP.out.c.2.2.2.2.2.1; have c6 := cell_later kB HP.out.c.2.2.2.2.2.2.1; have c7 := cell_later kB HP.out.c.2.2.2.2.2.2.2.1; have c8 := cell_later kB HP.out.c.2.2.2.2.2.2.2.2.1; have c9 := cell_later kB HP.out.c.2.2.2.2.2.2.2.2.2.1; have c10 := cell_later kB HP.out.c.2.2.2.2.2.2.2.2.2.2; have s0 := cell_later kB HQ1.out; have s1 := cell_later kB HQ2.out; have t0 := cell_later kB HQ3.out; have y1 := World.block_lt_of_cell? _ _ c0; have y2 := World.block_lt_of_cell? _ _ s0; have y3 := World.block_lt_of_cell? _ _ t0;go_simp; (try with_reducible rfl)
                (try simp only [cq])
                refine tkY 7 (some 172) ?_ ?_ ?_
                rotate_left
                · intro w hS0; (try dsimp only at hS0); have kB := hS0.1; have c0 := cell_later kB HP.out.c.1; have c1 := cell_later kB HP.out.c.2.1; have c2 := cell_later kB HP.out.c.2.2.1; have c3 := cell_later kB HP.out.c.2.2.2.1; have c4 := cell_later kB HP.out.c.2.2.2.2.1; have c5 := cell_later kB HP.out.c.2.2.2.2.2.1; have c6 := cell_later kB HP.out.c.2.2.2.2.2.2.1; have c7 := cell_later kB HP.out.c.2.2.2.2.2.2.2.1; have c8 := cell_later kB HP.out.c.2.2.2.2.2.2.2.2.1; have c9 := cell_later kB HP.out.c.2.2.2.2.2.2.2.2.2.1; have c10 := cell_later kB HP.out.c.2.2.2.2.2.2.2.2.2.2; have s0 := cell_later kB HQ1.out; have s1 := cell_later kB HQ2.out; have t0 := cell_later kB HQ3.out; have y1 := World.block_lt_of_cell? _ _ c0; have y2 := World.block_lt_of_cell? _ _ s0; have y3 := World.block_lt_of_cell? _ _ t0;go_simp; (try with_reducible rfl)
                (try simp only [cq])
                refine tkY 8 (some 173) ?_ ?_ ?_
                rotate_left
                · intro w _; go_simp; (try with_reducible rfl)
                (try simp only [cq])
                refine tkY 9 (some 174) ?_ ?_ ?_
                rotate_left
                · intro w _; go_simp; (try with_reducible rfl)
                (try simp only [cq])
                refine tkY 10 (some 175) ?_ ?_ ?_
                rotate_left
                · intro w hS0; (try dsimp only at hS0); have kB := hS0.1; have c0 := cell_later kB HP.out.c.1; have c1 := cell_later kB HP.out.c.2.1; have c2 := cell_later kB HP.out.c.2.2.1; have c3 := cell_later kB HP.out.c.2.2.2.1; have c4 := cell_later kB HP.out.c.2.2.2.2.1; have c5 := cell_later kB HP.out.c.2.2.2.2.2.1; have c6 := cell_later kB HP.out.c.2.2.2.2.2.2.1; have c7 := cell_later kB HP.out.c.2.2.2.2.2.2.2.1; have c8 := cell_later kB HP.out.c.2.2.2.2.2.2.2.2.1; have c9 := cell_later kB HP.out.c.2.2.2.2.2.2.2.2.2.1; have c10 := cell_later kB HP.out.c.2.2.2.2.2.2.2.2.2.2; have s0 := cell_later kB HQ1.out; have s1 := cell_later kB HQ2.out; have t0 := cell_later kB HQ3.out; have y1 := World.block_lt_of_cell? _ _ c0; have y2 := World.block_lt_of_cell? _ _ s0; have y3 := World.block_lt_of_cell? _ _ t0;go_simp; (try with_reducible rfl)
                (try simp only [cq])
                refine tkY 11 (some 176) ?_ ?_ ?_
                rotate_left
                · intro w hS0; (try dsimp only at hS0); have kB := hS0.1; have c0 := cell_later kB HP.out.c.1; have c1 := cell_later kB HP.out.c.2.1; have c2 := cell_later kB HP.out.c.2.2.1; have c3 := cell_later kB HP.out.c.2.2.2.1; have c4 := cell_later kB HP.out.c.2.2.2.2.1; have c5 := cell_later kB HP.out.c.2.2.2.2.2.1; have c6 := cell_later kB HP.out.c.2.2.2.2.2.2.1; have c7 := cell_later kB HP.out.c.2.2.2.2.2.2.2.1; have c8 := cell_later kB HP.out.c.2.2.2.2.2.2.2.2.1; have c9 := cell_later kB HP.out.c.2.2.2.2.2.2.2.2.2.1; have c10 := cell_later kB HP.out.c.2.2.2.2.2.2.2.2.2.2; have s0 := cell_later kB HQ1.out; have s1 := cell_later kB HQ2.out; have t0 := cell_later kB HQ3.out; have y1 := World.block_lt_of_cell? _ _ c0; have y2 := World.block_lt_of_cell? _ _ s0; have y3 := World.block_lt_of_cell? _ _ t0;go_simp; (try with_reducible rfl)
                (try simp only [cq])
                refine wpAnyH_ready (rs := [12]) (by kernel_rfl) (by simp) ?_
                refine arc1 (some 177) fun K hK => ?_
                go_simp
                (refine (HG3.out _ hH.1).mono ?_; rintro e w' ⟨u2, rfl, hu2, hb⟩)
                refine hK.out _ _ ?_ ?_
                · (exact ⟨bwS hH.1 (Nat.le_refl _) hb, hH.2.later hb⟩)
                (try clear hH); (try clear hb)
                intro hH
                clear hK K
                (try simp only [cq])
                refine tkY 13 (some 164) ?_ ?_ ?_
                rotate_left
                · intro w _; go_simp; (try with_reducible rfl)
                (try simp only [cq])
                refine tkY 14 (some 178) ?_ ?_ ?_
                rotate_left
                · intro w _; go_simp; (try with_reducible rfl)
                (try simp only [cq])
                refine tkY 15 (some 179) ?_ ?_ ?_
                rotate_left
                · intro w _; go_simp; (try with_reducible rfl)
                (try simp only [cq])
                refine tkY 16 (some 27) ?_ ?_ ?_
                rotate_left
                · intro w _; go_simp; (try with_reducible rfl)
                (try simp only [cq])
                refine tkY 17 (some 28) ?_ ?_ ?_
                rotate_left
                · intro w _; go_simp; (try with_reducible rfl)
                (try simp only [cq])
                refine wpAnyH_done (by kernel_rfl) ?_ _
                (try dsimp only [Act.put])
                (try simp only [cq])
                clear hB HG3 hu
                obtain ⟨hB, hu⟩ := hH
                have HSm := Lib.hid (ksamespans_yes u u2 sp.m sp.A sp.B _ hu hu2)
                clear hu hu2
                have g1 : (r1 != r1) = false := by simp
                have g2 : (f1 != f1) = false := by simp
                have g3 : (f2 != f2) = false := by simp
                go_wp2_with fail
                refine HSm.out.mono ?_
                rintro e w8 ⟨rfl, hb⟩
                replace hB := bwS hB (Nat.le_refl _) hb
                clear hb HSm
                go_wp2
                go_roundw
                case rel => exact ⟨k + 1, by omega, by go_num, hB⟩
                case measure => simp [intOf]; omega
              · have jB := bwS HB.out (by have := HB.out.size; omega) hB
                clear hB HRd
                go_wp2_with fail
                refine (awake_any _).mono ?_
                rintro e w9 ⟨rfl, hb⟩
                replace jB := bwS jB (Nat.le_refl _) hb
                go_wp2
                go_ret
                exact ⟨rfl, jB⟩
end Go.Proofs.Ytfakmggabicdjaa

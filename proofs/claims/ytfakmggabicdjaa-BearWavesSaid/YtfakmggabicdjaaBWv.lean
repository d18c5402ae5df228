/-
  BearWaves says yes.
-/
import Derived.Test.YtfakmggabicdjaaTail
import Derived.Test.YtfakmggabicdjaaWvH
import Derived.Test.YtfakmggabicdjaaWavW
import Derived.Test.YtfakmggabicdjaaAwk2
set_option linter.unusedVariables false
set_option linter.unusedSimpArgs false
namespace Go.Proofs.Ytfakmggabicdjaa
open Go.RowKit

set_option maxRecDepth 100000 in
set_option maxHeartbeats 16000000 in
theorem bwaves_any (a : Option Addr) (len cap : Nat) (w : World) (hn : NumsAt w a len) :
    Calls Try.prog 15 #[.slice a len cap] w fun e w' => e = .returned (.bool true) ∧ Below w.heap.size w w' := by
  go_enter Try.func15, Try.ntmps15
  go_wp2_with fail
  refine (newseed_at a len cap _ hn).mono ?_
  rintro e w2 ⟨rfl, hS, jB⟩
  obtain ⟨bs, hbs⟩ : ∃ b, w.heap.size = b := ⟨_, rfl⟩
  have zwbs : w.heap.size ≤ bs := by omega
  rw [hbs] at hS
  (try rw [hbs])
  clear hbs hn
  have hb1 := hS.choose_spec.lt
  go_wp2_with fail
  refine (plateof_in bs _ hS).mono ?_
  rintro e w3 ⟨p2, vO, vQ, rfl, hp, rO, rQ, hd⟩
  replace jB := Drawn.below jB hd zwbs
  replace hS := hd.seed
  replace rO := ownsRow_base (b1 := bs + 1) rO (by omega)
  replace rQ := ownsRow_base (b1 := bs + 1) rQ (by omega)
  clear hd hb1
  obtain ⟨aO, cO, rfl, _, _, _⟩ := pairs_of_row rO
  obtain ⟨aQ, cQ, rfl, _, _, _⟩ := pairs_of_row rQ
  have jO := Blk.new w3 #[.int .i64 p2.s0, .int .i64 p2.s1, (.slice aO p2.S.n cO), (.slice aQ p2.C.n cQ), .int .i64 p2.ne, .int .i64 p2.ed, .int .i64 p2.gr, .int .i64 p2.lo, .int .i64 p2.hi, .int .i64 p2.sh, .int .i64 p2.wi] 26
  go_upto_region 3 with fail
  obtain ⟨bO, hb_⟩ : ∃ b, w3.heap.size = b := ⟨_, rfl⟩
  have zsO : bs < bO := by rw [← hb_]; exact hS.choose_spec.lt
  rw [hb_] at jO
  (try rw [hb_])
  clear hb_
  replace rO := rO.alloc (.cells #[.int .i64 p2.s0, .int .i64 p2.s1, (.slice aO p2.S.n cO), (.slice aQ p2.C.n cQ), .int .i64 p2.ne, .int .i64 p2.ed, .int .i64 p2.gr, .int .i64 p2.lo, .int .i64 p2.hi, .int .i64 p2.sh, .int .i64 p2.wi] 26)
  replace rQ := rQ.alloc (.cells #[.int .i64 p2.s0, .int .i64 p2.s1, (.slice aO p2.S.n cO), (.slice aQ p2.C.n cQ), .int .i64 p2.ne, .int .i64 p2.ed, .int .i64 p2.gr, .int .i64 p2.lo, .int .i64 p2.hi, .int .i64 p2.sh, .int .i64 p2.wi] 26)
  replace hS : SeedAt bs _ := hS.imp fun _ h => h.alloc (.cells #[.int .i64 p2.s0, .int .i64 p2.s1, (.slice aO p2.S.n cO), (.slice aQ p2.C.n cQ), .int .i64 p2.ne, .int .i64 p2.ed, .int .i64 p2.gr, .int .i64 p2.lo, .int .i64 p2.hi, .int .i64 p2.sh, .int .i64 p2.wi] 26)
  replace jB := bwA jB (Nat.le_refl _) (.cells #[.int .i64 p2.s0, .int .i64 p2.s1, (.slice aO p2.S.n cO), (.slice aQ p2.C.n cQ), .int .i64 p2.ne, .int .i64 p2.ed, .int .i64 p2.gr, .int .i64 p2.lo, .int .i64 p2.hi, .int .i64 p2.sh, .int .i64 p2.wi] 26)
  generalize w3.alloc (.cells #[.int .i64 p2.s0, .int .i64 p2.s1, (.slice aO p2.S.n cO), (.slice aQ p2.C.n cQ), .int .i64 p2.ne, .int .i64 p2.ed, .int .i64 p2.gr, .int .i64 p2.lo, .int .i64 p2.hi, .int .i64 p2.sh, .int .i64 p2.wi] 26) = V5 at jO  rO rQ hS jB ⊢
  go_wp2_with fail
  refine (below_in 300 bs _ hS (by decide)).mono ?_
  rintro e w4 ⟨y5, rfl, y50, y51, hd⟩
  replace rO := hd.row rO (by omega)
  replace rQ := hd.row rQ (by omega)
  replace jO := hd.blk jO (by omega)
  replace jB := Drawn.below jB hd zwbs
  replace hS := hd.seed
  clear hd
  go_wp2_with fail
  refine (below_in 9000 bs _ hS (by decide)).mono ?_
  rintro e w5 ⟨y6, rfl, y60, y61, hd⟩
  replace rO := hd.row rO (by omega)
  replace rQ := hd.row rQ (by omega)
  replace jO := hd.blk jO (by omega)
  replace jB := Drawn.below jB hd zwbs
  replace hS := hd.seed
  clear hd
  go_wp2_with fail
  refine (of3_in 0 y5 y6 0 9000 bs _ _ (by simp) hS (by decide) (by decide) (by omega) (by omega) (by omega) (by omega)).mono ?_
  rintro e w6 ⟨lo, rfl, lo0, lo1, hd⟩
  replace rO := hd.row (rO.alloc (.cells #[.int .i64 0, .int .i64 y5, .int .i64 y6] 3)) (by omega)
  replace rQ := hd.row (rQ.alloc (.cells #[.int .i64 0, .int .i64 y5, .int .i64 y6] 3)) (by omega)
  replace jO := hd.blk (jO.alloc (.cells #[.int .i64 0, .int .i64 y5, .int .i64 y6] 3)) (by omega)
  replace jB := Drawn.below (bwA jB (Nat.le_refl _) (.cells #[.int .i64 0, .int .i64 y5, .int .i64 y6] 3)) hd zwbs
  replace hS := hd.seed
  clear hd y50 y51 y60 y61
  go_wp2_with fail
  refine (below_in 60 bs _ hS (by decide)).mono ?_
  rintro e w7 ⟨y1, rfl, y10, y11, hd⟩
  replace rO := hd.row rO (by omega)
  replace rQ := hd.row rQ (by omega)
  replace jO := hd.blk jO (by omega)
  replace jB := Drawn.below jB hd zwbs
  replace hS := hd.seed
  clear hd
  have ew1 : IntKind.i64.wrap (lo + y1) = lo + y1 := IntWalk.i64_in _ (by omega)
  go_wp2_with fail
  refine (kspan_any _ _ _).mono ?_
  rintro e w8 ⟨rfl, hb⟩
  replace rO := row_call rO hb
  replace rQ := row_call rQ hb
  replace jO := jO.call hb
  replace hS : SeedAt bs w8 := hS.imp fun _ h => h.call hb
  replace jB := bwS jB (Nat.le_refl _) hb
  clear hb
  obtain ⟨hi, hhi⟩ : ∃ hi, lo + y1 = hi := ⟨_, rfl⟩
  (try rw [hhi])
  have hi0 : lo ≤ hi := by omega
  have hi1 : hi ≤ 10000 := by omega
  clear hhi y10 y11 ew1
  go_wp2_with fail
  refine (below_in 800 bs _ hS (by decide)).mono ?_
  rintro e w9 ⟨sh, rfl, sh0, sh1, hd⟩
  replace rO := hd.row rO (by omega)
  replace rQ := hd.row rQ (by omega)
  replace jO := hd.blk jO (by omega)
  replace jB := Drawn.below jB hd zwbs
  replace hS := hd.seed
  clear hd
  replace sh1 : sh ≤ 800 := by omega
  have jD := Blk.new w9 #[.int .i64 lo, .int .i64 hi] 23
  go_upto_region 5 with fail
  obtain ⟨bD, hb_⟩ : ∃ b, w9.heap.size = b := ⟨_, rfl⟩
  have zsD : bs < bD := by rw [← hb_]; exact hS.choose_spec.lt
  rw [hb_] at jD
  (try rw [hb_])
  clear hb_
  replace rO := rO.alloc (.cells #[.int .i64 lo, .int .i64 hi] 23)
  replace rQ := rQ.alloc (.cells #[.int .i64 lo, .int .i64 hi] 23)
  replace jO := jO.alloc (.cells #[.int .i64 lo, .int .i64 hi] 23)
  replace hS : SeedAt bs _ := hS.imp fun _ h => h.alloc (.cells #[.int .i64 lo, .int .i64 hi] 23)
  replace jB := bwA jB (Nat.le_refl _) (.cells #[.int .i64 lo, .int .i64 hi] 23)
  generalize w9.alloc (.cells #[.int .i64 lo, .int .i64 hi] 23) = V6 at jD jO rO rQ hS jB ⊢
  obtain ⟨f0, f1⟩ := jD.c2
  have zD := jD.lt
  go_wp2_with fail
  clear f0 f1 zD
  refine (kpart_in lo hi bs _ hS (by omega) (by omega) hi0).mono ?_
  rintro e w10 ⟨n0, n1, rfl, n00, n01, n11, hd⟩
  replace rO := hd.row rO (by omega)
  replace rQ := hd.row rQ (by omega)
  replace jO := hd.blk jO (by omega)
  replace jD := hd.blk jD (by omega)
  replace jB := Drawn.below jB hd zwbs
  replace hS := hd.seed
  clear hd
  have jN := Blk.new w10 #[.int .i64 n0, .int .i64 n1] 23
  go_upto_region 6 with fail
  obtain ⟨bN, hb_⟩ : ∃ b, w10.heap.size = b := ⟨_, rfl⟩
  have zsN : bs < bN := by rw [← hb_]; exact hS.choose_spec.lt
  rw [hb_] at jN
  (try rw [hb_])
  clear hb_
  replace rO := rO.alloc (.cells #[.int .i64 n0, .int .i64 n1] 23)
  replace rQ := rQ.alloc (.cells #[.int .i64 n0, .int .i64 n1] 23)
  replace jO := jO.alloc (.cells #[.int .i64 n0, .int .i64 n1] 23)
  replace jD := jD.alloc (.cells #[.int .i64 n0, .int .i64 n1] 23)
  replace hS : SeedAt bs _ := hS.imp fun _ h => h.alloc (.cells #[.int .i64 n0, .int .i64 n1] 23)
  replace jB := bwA jB (Nat.le_refl _) (.cells #[.int .i64 n0, .int .i64 n1] 23)
  generalize w10.alloc (.cells #[.int .i64 n0, .int .i64 n1] 23) = V7 at jN jO jD rO rQ hS jB ⊢
  have hE : eWav p2 lo hi sh = 0 := orE_ok (ePl_ok hp) (orE_ok (eS_ok lo0 hi0 hi1) (eN_ok sh0 (by omega)))
  have hsp := speeds_row p2 (.slice aO p2.S.n cO) (.slice aQ p2.C.n cQ) lo hi sh V7 (pairs_of_row rO) (pairs_of_row rQ)
  have hs2 : spdS p2 lo hi sh = spV (spdF p2 lo hi sh) 1001 := by unfold spdS; rw [if_pos hE]
  rw [hE, hs2] at hsp
  have hok := spV_ok (spdF p2 lo hi sh) 1001
  have hfew := spV_few (spdF p2 lo hi sh) 1001
  obtain ⟨⟨m, A, B⟩, hz⟩ : ∃ z, spV (spdF p2 lo hi sh) 1001 = z := ⟨_, rfl⟩
  rw [hz] at hsp hok hfew
  simp only at hsp hfew
  have HSp := Lib.hid hsp
  have HOk := Lib.hid hok
  clear hsp hs2 hok hz hE
  obtain ⟨d0, d1, d2, d3, d4, d5, d6, d7, d8, d9, d10⟩ := jO.c11
  have zO := jO.lt
  obtain ⟨f0, f1⟩ := jD.c2
  have zD := jD.lt
  go_wp2_with fail
  clear d0 d1 d2 d3 d4 d5 d6 d7 d8 d9 d10 zO f0 f1 zD
  refine HSp.out.mono ?_
  rintro e w11 ⟨u, rfl, rU, hb⟩
  have rU2 := ownsRow_base (b1 := bs + 1) rU (by have := hS.choose_spec.lt; omega)
  replace rO := row_call rO hb
  replace rQ := row_call rQ hb
  replace jO := jO.call hb
  replace jD := jD.call hb
  replace jN := jN.call hb
  replace hS : SeedAt bs w11 := hS.imp fun _ h => h.call hb
  replace jB := bwS jB (Nat.le_refl _) hb
  clear hb HSp rU
  go_wp2_with fail
  refine (from_in 0 1000 bs _ hS (by decide) (by decide) (by decide) (by decide)).mono ?_
  rintro e w12 ⟨y2, rfl, y20, y21, hd⟩
  replace rU2 := hd.row rU2 (by omega)
  replace rO := hd.row rO (by omega)
  replace rQ := hd.row rQ (by omega)
  replace jO := hd.blk jO (by omega)
  replace jD := hd.blk jD (by omega)
  replace jN := hd.blk jN (by omega)
  replace jB := Drawn.below jB hd zwbs
  replace hS := hd.seed
  clear hd
  go_wp2_with fail
  refine (from_in 0 100 bs _ hS (by decide) (by decide) (by decide) (by decide)).mono ?_
  rintro e w13 ⟨y3, rfl, y30, y31, hd⟩
  replace rU2 := hd.row rU2 (by omega)
  replace rO := hd.row rO (by omega)
  replace rQ := hd.row rQ (by omega)
  replace jO := hd.blk jO (by omega)
  replace jD := hd.blk jD (by omega)
  replace jN := hd.blk jN (by omega)
  replace jB := Drawn.below jB hd zwbs
  replace hS := hd.seed
  clear hd
  have hU := pairs_of_row rU2
  obtain ⟨aU, cU, rfl, hcU, hmU, _⟩ := id hU
  replace rO := pairs_of_row rO
  replace rQ := pairs_of_row rQ
  clear rU2 hS
  obtain ⟨V, hVV⟩ : ∃ V, V = w13 := ⟨_, rfl⟩
  subst hVV
  have HU := Lib.hid hU
  have HO := Lib.hid jO
  have HD := Lib.hid jD
  have HN := Lib.hid jN
  have HB := Lib.hid jB
  have HT1 := Lib.hid rO
  have HT2 := Lib.hid rQ
  have HP := Lib.hid hp
  clear hU jO jD jN jB rO rQ hp
  have jR := row_new4 V V.heap.size (Nat.le_refl _) 0 1000 y2 y3 3
  rw [show ([.int .i64 0, .int .i64 1000, .int .i64 y2, .int .i64 y3] : List Value) = catC (intC (fourW 0 1000 y2 y3)) 4 from rfl] at jR
  have hB0 : Below V.heap.size V (V.alloc (.cells #[.int .i64 0, .int .i64 1000, .int .i64 y2, .int .i64 y3] 3)) := by (repeat (first | exact Below.refl _ _ | assumption | refine Below.drew ?_ | refine Below.drewN ?_ _ | refine blT ?_ | refine blU ?_))
  have hX0 : ∀ i, i < 4 → 0 ≤ fourW 0 1000 y2 y3 i ∧ fourW 0 1000 y2 y3 i ≤ 1000 := fun i hi => by
    obtain rfl | rfl | rfl | rfl : i = 0 ∨ i = 1 ∨ i = 2 ∨ i = 3 := by omega
    · exact ⟨Int.le_refl _, by show (0 : Int) ≤ 1000; decide⟩
    · exact ⟨by show (0 : Int) ≤ 1000; decide, Int.le_refl _⟩
    · exact ⟨y20, by show y2 ≤ 1000; omega⟩
    · exact ⟨y30, by show y3 ≤ 1000; omega⟩
  obtain ⟨i0, hi0', hz0, hz1, hz2⟩ := info_parts Try.infoInt
  go_wp2_with fail
  go_loopw [11, 12] (fun l i wr => ∃ (k c : Nat) (X : Nat → Int), i = .int .i64 k ∧ k ≤ m ∧ c ≤ 4 + 4 * k ∧ (∀ j, j < c → 0 ≤ X j ∧ X j ≤ 1000) ∧ wr.ownsRow V.heap.size 3 1 l c (catC (intC X) c) ∧ Below V.heap.size V wr) (fun _ i _ => m - (intOf i).toNat)
  case atStart => exact ⟨0, 4, _, rfl, Nat.zero_le _, by omega, hX0, jR, hB0⟩
  case round =>
    clear jR hB0 hX0
    obtain ⟨k, c, X, rfl, hk, hc, hX, jR, hB⟩ := hrel
    have HX := Lib.hid hX
    clear hX
    by_cases hlt : k < m
    · obtain ⟨aU', cU', hvu, _, _, h3⟩ := HU.out
      simp only [Value.slice.injEq] at hvu
      obtain ⟨rfl, _, rfl⟩ := hvu
      obtain ⟨b, o, rfl, hcc⟩ := h3 (by omega)
      have hkm : (k : Int) < (m : Int) := by omega
      obtain ⟨ea0, ea1, ea2⟩ := HOk.out.each k hlt
      have HCk := Lib.hid (hcc k hlt)
      have hr : ∀ z, u11.ownBlock = some z → V.heap.size ≤ z := fun z e => (jR.lt z e).1
      have zV := hB.size
      go_upto_region 13 with fail
      go_cut [109] (fun s wx => s = .bool false ∧ wx.ownsRow V.heap.size 3 1 u11 c (catC (intC X) c) ∧ Below V.heap.size V wx)
      case first =>
        by_cases hk00 : k = 0
        · subst hk00
          obtain ⟨x, hx⟩ : ∃ x, A 0 = x := ⟨_, rfl⟩
          obtain ⟨y, hy⟩ : ∃ y, B 0 = y := ⟨_, rfl⟩
          simp only at ea0 ea1 ea2
          rw [hx] at HCk ea0 ea1
          rw [hy] at HCk ea1 ea2
          clear hx hy
          have hc0 := HCk.out
          simp only [Nat.zero_mul, Nat.add_zero] at hc0
          replace HCk := Lib.hid hc0
          clear hc0
          have dq1 : decide (y < x) = false := by simp; omega
          have dq2 : decide (x < 0) = false := by simp; omega
          have dq3 : decide (1000 < y) = false := by simp; omega
          refine wp_region_held_drew (S := (fun v => v.ownsRow V.heap.size 3 1 u11 c (catC (intC X) c) ∧ Below V.heap.size V v)) (by kernel_rfl) ?_ (fun hH => ?_)
          · (try dsimp only); (exact ⟨jR.drew, hB.drew⟩)
          refine tkY 0 (some 64) ?_ ?_ ?_
          rotate_left
          · intro w _; go_simp; (try with_reducible rfl)
          (try simp only [cq])
          refine tkY 1 (some 65) ?_ ?_ ?_
          rotate_left
          · intro w _; go_simp; (try with_reducible rfl)
          (try simp only [cq])
          refine tkY 2 (some 66) ?_ ?_ ?_
          rotate_left
          · intro w hS0; (try dsimp only at hS0); have kB := hS0.2; have b0 := cell_later kB HCk.out.1; have b1 := cell_later kB HCk.out.2; have z0 := World.block_lt_of_cell? _ _ b0;go_simp; (try with_reducible rfl)
          (try simp only [cq])
          refine tkY 3 (some 67) ?_ ?_ ?_
          rotate_left
          · intro w hS0; (try dsimp only at hS0); have kB := hS0.2; have b0 := cell_later kB HCk.out.1; have b1 := cell_later kB HCk.out.2; have z0 := World.block_lt_of_cell? _ _ b0;go_simp; (try with_reducible rfl)
          (try simp only [cq])
          refine tkY 4 (some 68) ?_ ?_ ?_
          rotate_left
          · intro w hS0; (try dsimp only at hS0); have kB := hS0.2; have b0 := cell_later kB HCk.out.1; have b1 := cell_later kB HCk.out.2; have z0 := World.block_lt_of_cell? _ _ b0;go_simp; (try with_reducible rfl)
          (try simp only [cq])
          refine tkY 5 (some 69) ?_ ?_ ?_
          rotate_left
          · intro w _; go_simp; (try with_reducible rfl)
          (try simp only [cq])
          refine tkY 6 (some 70) ?_ ?_ ?_
          rotate_left
          · intro w _; go_simp; (try with_reducible rfl)
          (try simp only [cq])
          refine tkY 7 (some 71) ?_ ?_ ?_
          rotate_left
          · intro w hS0; (try dsimp only at hS0); have kB := hS0.2; have b0 := cell_later kB HCk.out.1; have b1 := cell_later kB HCk.out.2; have z0 := World.block_lt_of_cell? _ _ b0;go_simp; (try with_reducible rfl)
          (try simp only [cq])
          refine tkY 8 (some 72) ?_ ?_ ?_
          rotate_left
          · intro w hS0; (try dsimp only at hS0); have kB := hS0.2; have b0 := cell_later kB HCk.out.1; have b1 := cell_later kB HCk.out.2; have z0 := World.block_lt_of_cell? _ _ b0;go_simp; (try with_reducible rfl)
          (try simp only [cq])
          refine tkY 9 (some 73) ?_ ?_ ?_
          rotate_left
          · intro w hS0; (try dsimp only at hS0); have kB := hS0.2; have b0 := cell_later kB HCk.out.1; have b1 := cell_later kB HCk.out.2; have z0 := World.block_lt_of_cell? _ _ b0;go_simp; (try with_reducible rfl)
          (try simp only [cq])
          refine tkY 10 (some 74) ?_ ?_ ?_
          rotate_left
          · intro w _; go_simp; (try with_reducible rfl)
          (try simp only [cq])
          refine tkY 11 (some 75) ?_ ?_ ?_
          rotate_left
          · intro w _; go_simp; (try with_reducible rfl)
          (try simp only [cq])
          refine tkY 12 (some 76) ?_ ?_ ?_
          rotate_left
          · intro w _; go_simp; (try with_reducible rfl)
          (try simp only [cq])
          refine tkY 13 (some 77) ?_ ?_ ?_
          rotate_left
          · intro w _; go_simp; (try with_reducible rfl)
          (try simp only [cq])
          refine tkY 14 (some 78) ?_ ?_ ?_
          rotate_left
          · intro w _; go_simp; (try with_reducible rfl)
          (try simp only [cq])
          refine tkN 15 (some 79) ?_
          (try simp only [cq])
          refine tkN 16 (some 80) ?_
          (try simp only [cq])
          refine tkN 17 (some 81) ?_
          (try simp only [cq])
          refine tkN 18 (some 82) ?_
          (try simp only [cq])
          refine tkN 19 (some 83) ?_
          (try simp only [cq])
          refine tkN 20 (some 84) ?_
          (try simp only [cq])
          refine tkN 21 (some 85) ?_
          (try simp only [cq])
          refine tkN 22 (some 86) ?_
          (try simp only [cq])
          refine tkN 23 (some 87) ?_
          (try simp only [cq])
          refine tkN 24 (some 88) ?_
          (try simp only [cq])
          refine tkN 25 (some 89) ?_
          (try simp only [cq])
          refine tkN 26 (some 90) ?_
          (try simp only [cq])
          refine tkN 27 (some 91) ?_
          (try simp only [cq])
          refine tkY 28 (some 92) ?_ ?_ ?_
          rotate_left
          · intro w _; go_simp; (try with_reducible rfl)
          (try simp only [cq])
          refine tkY 29 (some 93) ?_ ?_ ?_
          rotate_left
          · intro w _; go_simp; (try with_reducible rfl)
          (try simp only [cq])
          refine tkY 30 (some 94) ?_ ?_ ?_
          rotate_left
          · intro w _; go_simp; (try with_reducible rfl)
          (try simp only [cq])
          refine tkY 31 (some 95) ?_ ?_ ?_
          rotate_left
          · intro w _; go_simp; (try with_reducible rfl)
          (try simp only [cq])
          refine tkY 32 (some 96) ?_ ?_ ?_
          rotate_left
          · intro w _; go_simp; (try with_reducible rfl)
          (try simp only [cq])
          refine tkY 33 (some 97) ?_ ?_ ?_
          rotate_left
          · intro w hS0; (try dsimp only at hS0); have kB := hS0.2; have b0 := cell_later kB HCk.out.1; have b1 := cell_later kB HCk.out.2; have z0 := World.block_lt_of_cell? _ _ b0;go_simp; (try with_reducible rfl)
          (try simp only [cq])
          refine tkY 34 (some 98) ?_ ?_ ?_
          rotate_left
          · intro w hS0; (try dsimp only at hS0); have kB := hS0.2; have b0 := cell_later kB HCk.out.1; have b1 := cell_later kB HCk.out.2; have z0 := World.block_lt_of_cell? _ _ b0;go_simp; (try with_reducible rfl)
          (try simp only [cq])
          refine tkY 35 (some 99) ?_ ?_ ?_
          rotate_left
          · intro w hS0; (try dsimp only at hS0); have kB := hS0.2; have b0 := cell_later kB HCk.out.1; have b1 := cell_later kB HCk.out.2; have z0 := World.block_lt_of_cell? _ _ b0;go_simp; (try with_reducible rfl)
          (try simp only [cq])
          refine tkY 36 (some 100) ?_ ?_ ?_
          rotate_left
          · intro w _; go_simp; (try with_reducible rfl)
          (try simp only [cq])
          refine tkY 37 (some 101) ?_ ?_ ?_
          rotate_left
          · intro w _; go_simp; (try with_reducible rfl)
          (try simp only [cq])
          refine tkY 38 (some 102) ?_ ?_ ?_
          rotate_left
          · intro w _; go_simp; (try with_reducible rfl)
          (try simp only [cq])
          refine tkY 39 (some 103) ?_ ?_ ?_
          rotate_left
          · intro w _; go_simp; (try with_reducible rfl)
          (try simp only [cq])
          refine tkY 40 (some 104) ?_ ?_ ?_
          rotate_left
          · intro w _; go_simp; (try with_reducible rfl)
          (try simp only [cq])
          refine tkY 41 (some 105) ?_ ?_ ?_
          rotate_left
          · intro w hS0; (try dsimp only at hS0); have kB := hS0.2; have b0 := cell_later kB HCk.out.1; have b1 := cell_later kB HCk.out.2; have z0 := World.block_lt_of_cell? _ _ b0;go_simp; (try with_reducible rfl)
          (try simp only [cq])
          refine tkY 42 (some 106) ?_ ?_ ?_
          rotate_left
          · intro w hS0; (try dsimp only at hS0); have kB := hS0.2; have b0 := cell_later kB HCk.out.1; have b1 := cell_later kB HCk.out.2; have z0 := World.block_lt_of_cell? _ _ b0;go_simp; (try with_reducible rfl)
          (try simp only [cq])
          refine tkY 43 (some 107) ?_ ?_ ?_
          rotate_left
          · intro w hS0; (try dsimp only at hS0); have kB := hS0.2; have b0 := cell_later kB HCk.out.1; have b1 := cell_later kB HCk.out.2; have z0 := World.block_lt_of_cell? _ _ b0;go_simp; (try with_reducible rfl)
          (try simp only [cq])
          refine tkY 44 (some 108) ?_ ?_ ?_
          rotate_left
          · intro w _; go_simp; (try with_reducible rfl)
          (try simp only [cq])
          refine tkY 45 (some 109) ?_ ?_ ?_
          rotate_left
          · intro w _; go_simp; (try with_reducible rfl)
          (try simp only [cq])
          refine wpAnyH_done (by kernel_rfl) ?_ _
          (try dsimp only [Act.put])
          (try simp only [cq])
          clear jR hB
          obtain ⟨jR, hB⟩ := hH
          go_wp2_with fail
          go_meet
          exact ⟨rfl, jR, hB⟩
        · obtain ⟨j, hkj⟩ : ∃ j, k = j + 1 := ⟨k - 1, by omega⟩
          have HCj := Lib.hid (hcc j (by omega)).2
          have ap := HOk.out.apart j (show j + 1 < m by omega)
          have ew0 : IntKind.i64.wrap ((k : Int) - 1) = (j : Int) := by rw [show (k : Int) - 1 = (j : Int) by omega]; exact IntWalk.i64_in _ (by omega)
          have hjm : (j : Int) < (m : Int) := by omega
          have ej := HOk.out.each j (show j < m by omega)
          rw [← hkj] at ap
          simp only at ap ej ea0 ea1 ea2
          obtain ⟨x, hx⟩ : ∃ x, A k = x := ⟨_, rfl⟩
          obtain ⟨y, hy⟩ : ∃ y, B k = y := ⟨_, rfl⟩
          obtain ⟨z, hz⟩ : ∃ z, B j = z := ⟨_, rfl⟩
          rw [hx] at HCk ea0 ea1 ap
          rw [hy] at HCk ea1 ea2
          rw [hz] at HCj ap ej
          have ez := ej.2.2
          have ez2 : 0 ≤ z := by omega
          have ez3 : z < 1001 := by simpa using ez
          clear hx hy hz ej ez
          have ew1 : IntKind.i64.wrap (z + 1) = z + 1 := IntWalk.i64_in _ (by omega)
          have hnx : ¬ x ≤ z + 1 := by omega
          have hk0 : (0 : Int) < (k : Int) := by omega
          clear hkj hk00
          have dq1 : decide (y < x) = false := by simp; omega
          have dq2 : decide (x < 0) = false := by simp; omega
          have dq3 : decide (1000 < y) = false := by simp; omega
          have dq4 : decide (x ≤ z + 1) = false := by simp; omega
          have dq5 : decide ((0 : Int) < (k : Int)) = true := by simpa using hk0
          have dq6 : decide (0 < k) = true := by simp; omega
          refine wp_region_held_drew (S := (fun v => v.ownsRow V.heap.size 3 1 u11 c (catC (intC X) c) ∧ Below V.heap.size V v)) (by kernel_rfl) ?_ (fun hH => ?_)
          · (try dsimp only); (exact ⟨jR.drew, hB.drew⟩)
          refine tkY 0 (some 64) ?_ ?_ ?_
          rotate_left
          · intro w _; go_simp; (try with_reducible rfl)
          (try simp only [cq])
          refine tkY 1 (some 65) ?_ ?_ ?_
          rotate_left
          · intro w _; go_simp; (try with_reducible rfl)
          (try simp only [cq])
          refine tkY 2 (some 66) ?_ ?_ ?_
          rotate_left
          · intro w hS0; (try dsimp only at hS0); have kB := hS0.2; have b0 := cell_later kB HCk.out.1; have b1 := cell_later kB HCk.out.2; have b2 := cell_later kB HCj.out; have z0 := World.block_lt_of_cell? _ _ b0;go_simp; (try with_reducible rfl)
          (try simp only [cq])
          refine tkY 3 (some 67) ?_ ?_ ?_
          rotate_left
          · intro w hS0; (try dsimp only at hS0); have kB := hS0.2; have b0 := cell_later kB HCk.out.1; have b1 := cell_later kB HCk.out.2; have b2 := cell_later kB HCj.out; have z0 := World.block_lt_of_cell? _ _ b0;go_simp; (try with_reducible rfl)
          (try simp only [cq])
          refine tkY 4 (some 68) ?_ ?_ ?_
          rotate_left
          · intro w hS0; (try dsimp only at hS0); have kB := hS0.2; have b0 := cell_later kB HCk.out.1; have b1 := cell_later kB HCk.out.2; have b2 := cell_later kB HCj.out; have z0 := World.block_lt_of_cell? _ _ b0;go_simp; (try with_reducible rfl)
          (try simp only [cq])
          refine tkY 5 (some 69) ?_ ?_ ?_
          rotate_left
          · intro w _; go_simp; (try with_reducible rfl)
          (try simp only [cq])
          refine tkY 6 (some 70) ?_ ?_ ?_
          rotate_left
          · intro w _; go_simp; (try with_reducible rfl)
          (try simp only [cq])
          refine tkY 7 (some 71) ?_ ?_ ?_
          rotate_left
          · intro w hS0; (try dsimp only at hS0); have kB := hS0.2; have b0 := cell_later kB HCk.out.1; have b1 := cell_later kB HCk.out.2; have b2 := cell_later kB HCj.out; have z0 := World.block_lt_of_cell? _ _ b0;go_simp; (try with_reducible rfl)
          (try simp only [cq])
          refine tkY 8 (some 72) ?_ ?_ ?_
          rotate_left
          · intro w hS0; (try dsimp only at hS0); have kB := hS0.2; have b0 := cell_later kB HCk.out.1; have b1 := cell_later kB HCk.out.2; have b2 := cell_later kB HCj.out; have z0 := World.block_lt_of_cell? _ _ b0;go_simp; (try with_reducible rfl)
          (try simp only [cq])
          refine tkY 9 (some 73) ?_ ?_ ?_
          rotate_left
          · intro w hS0; (try dsimp only at hS0); have kB := hS0.2; have b0 := cell_later kB HCk.out.1; have b1 := cell_later kB HCk.out.2; have b2 := cell_later kB HCj.out; have z0 := World.block_lt_of_cell? _ _ b0;go_simp; (try with_reducible rfl)
          (try simp only [cq])
          refine tkY 10 (some 74) ?_ ?_ ?_
          rotate_left
          · intro w _; go_simp; (try with_reducible rfl)
          (try simp only [cq])
          refine tkY 11 (some 75) ?_ ?_ ?_
          rotate_left
          · intro w _; go_simp; (try with_reducible rfl)
          (try simp only [cq])
          refine tkY 12 (some 76) ?_ ?_ ?_
          rotate_left
          · intro w _; go_simp; (try with_reducible rfl)
          (try simp only [cq])
          refine tkY 13 (some 77) ?_ ?_ ?_
          rotate_left
          · intro w _; go_simp; (try with_reducible rfl)
          (try simp only [cq])
          refine tkY 14 (some 78) ?_ ?_ ?_
          rotate_left
          · intro w _; go_simp; (try with_reducible rfl)
          (try simp only [cq])
          refine tkY 15 (some 79) ?_ ?_ ?_
          rotate_left
          · intro w _; go_simp; (try with_reducible rfl)
          (try simp only [cq])
          refine tkY 16 (some 80) ?_ ?_ ?_
          rotate_left
          · intro w _; go_simp; (try with_reducible rfl)
          (try simp only [cq])
          refine tkY 17 (some 81) ?_ ?_ ?_
          rotate_left
          · intro w hS0; (try dsimp only at hS0); have kB := hS0.2; have b0 := cell_later kB HCk.out.1; have b1 := cell_later kB HCk.out.2; have b2 := cell_later kB HCj.out; have z0 := World.block_lt_of_cell? _ _ b0;go_simp; (try with_reducible rfl)
          (try simp only [cq])
          refine tkY 18 (some 82) ?_ ?_ ?_
          rotate_left
          · intro w hS0; (try dsimp only at hS0); have kB := hS0.2; have b0 := cell_later kB HCk.out.1; have b1 := cell_later kB HCk.out.2; have b2 := cell_later kB HCj.out; have z0 := World.block_lt_of_cell? _ _ b0;go_simp; (try with_reducible rfl)
          (try simp only [cq])
          refine tkY 19 (some 83) ?_ ?_ ?_
          rotate_left
          · intro w hS0; (try dsimp only at hS0); have kB := hS0.2; have b0 := cell_later kB HCk.out.1; have b1 := cell_later kB HCk.out.2; have b2 := cell_later kB HCj.out; have z0 := World.block_lt_of_cell? _ _ b0;go_simp; (try with_reducible rfl)
          (try simp only [cq])
          refine tkY 20 (some 84) ?_ ?_ ?_
          rotate_left
          · intro w _; go_simp; (try with_reducible rfl)
          (try simp only [cq])
          refine tkY 21 (some 85) ?_ ?_ ?_
          rotate_left
          · intro w _; go_simp; (try with_reducible rfl)
          (try simp only [cq])
          refine tkY 22 (some 86) ?_ ?_ ?_
          rotate_left
          · intro w _; go_simp; (try with_reducible rfl)
          (try simp only [cq])
          refine tkY 23 (some 87) ?_ ?_ ?_
          rotate_left
          · intro w hS0; (try dsimp only at hS0); have kB := hS0.2; have b0 := cell_later kB HCk.out.1; have b1 := cell_later kB HCk.out.2; have b2 := cell_later kB HCj.out; have z0 := World.block_lt_of_cell? _ _ b0;go_simp; (try with_reducible rfl)
          (try simp only [cq])
          refine tkY 24 (some 88) ?_ ?_ ?_
          rotate_left
          · intro w hS0; (try dsimp only at hS0); have kB := hS0.2; have b0 := cell_later kB HCk.out.1; have b1 := cell_later kB HCk.out.2; have b2 := cell_later kB HCj.out; have z0 := World.block_lt_of_cell? _ _ b0;go_simp; (try with_reducible rfl)
          (try simp only [cq])
          refine tkY 25 (some 89) ?_ ?_ ?_
          rotate_left
          · intro w hS0; (try dsimp only at hS0); have kB := hS0.2; have b0 := cell_later kB HCk.out.1; have b1 := cell_later kB HCk.out.2; have b2 := cell_later kB HCj.out; have z0 := World.block_lt_of_cell? _ _ b0;go_simp; (try with_reducible rfl)
          (try simp only [cq])
          refine tkY 26 (some 90) ?_ ?_ ?_
          rotate_left
          · intro w _; go_simp; (try with_reducible rfl)
          (try simp only [cq])
          refine tkY 27 (some 91) ?_ ?_ ?_
          rotate_left
          · intro w _; go_simp; (try with_reducible rfl)
          (try simp only [cq])
          refine tkY 28 (some 92) ?_ ?_ ?_
          rotate_left
          · intro w _; go_simp; (try with_reducible rfl)
          (try simp only [cq])
          refine tkY 29 (some 93) ?_ ?_ ?_
          rotate_left
          · intro w _; go_simp; (try with_reducible rfl)
          (try simp only [cq])
          refine tkY 30 (some 94) ?_ ?_ ?_
          rotate_left
          · intro w _; go_simp; (try with_reducible rfl)
          (try simp only [cq])
          refine tkY 31 (some 95) ?_ ?_ ?_
          rotate_left
          · intro w _; go_simp; (try with_reducible rfl)
          (try simp only [cq])
          refine tkY 32 (some 96) ?_ ?_ ?_
          rotate_left
          · intro w _; go_simp; (try with_reducible rfl)
          (try simp only [cq])
          refine tkY 33 (some 97) ?_ ?_ ?_
          rotate_left
          · intro w hS0; (try dsimp only at hS0); have kB := hS0.2; have b0 := cell_later kB HCk.out.1; have b1 := cell_later kB HCk.out.2; have b2 := cell_later kB HCj.out; have z0 := World.block_lt_of_cell? _ _ b0;go_simp; (try with_reducible rfl)
          (try simp only [cq])
          refine tkY 34 (some 98) ?_ ?_ ?_
          rotate_left
          · intro w hS0; (try dsimp only at hS0); have kB := hS0.2; have b0 := cell_later kB HCk.out.1; have b1 := cell_later kB HCk.out.2; have b2 := cell_later kB HCj.out; have z0 := World.block_lt_of_cell? _ _ b0;go_simp; (try with_reducible rfl)
          (try simp only [cq])
          refine tkY 35 (some 99) ?_ ?_ ?_
          rotate_left
          · intro w hS0; (try dsimp only at hS0); have kB := hS0.2; have b0 := cell_later kB HCk.out.1; have b1 := cell_later kB HCk.out.2; have b2 := cell_later kB HCj.out; have z0 := World.block_lt_of_cell? _ _ b0;go_simp; (try with_reducible rfl)
          (try simp only [cq])
          refine tkY 36 (some 100) ?_ ?_ ?_
          rotate_left
          · intro w _; go_simp; (try with_reducible rfl)
          (try simp only [cq])
          refine tkY 37 (some 101) ?_ ?_ ?_
          rotate_left
          · intro w _; go_simp; (try with_reducible rfl)
          (try simp only [cq])
          refine tkY 38 (some 102) ?_ ?_ ?_
          rotate_left
          · intro w _; go_simp; (try with_reducible rfl)
          (try simp only [cq])
          refine tkY 39 (some 103) ?_ ?_ ?_
          rotate_left
          · intro w _; go_simp; (try with_reducible rfl)
          (try simp only [cq])
          refine tkY 40 (some 104) ?_ ?_ ?_
          rotate_left
          · intro w _; go_simp; (try with_reducible rfl)
          (try simp only [cq])
          refine tkY 41 (some 105) ?_ ?_ ?_
          rotate_left
          · intro w hS0; (try dsimp only at hS0); have kB := hS0.2; have b0 := cell_later kB HCk.out.1; have b1 := cell_later kB HCk.out.2; have b2 := cell_later kB HCj.out; have z0 := World.block_lt_of_cell? _ _ b0;go_simp; (try with_reducible rfl)
          (try simp only [cq])
          refine tkY 42 (some 106) ?_ ?_ ?_
          rotate_left
          · intro w hS0; (try dsimp only at hS0); have kB := hS0.2; have b0 := cell_later kB HCk.out.1; have b1 := cell_later kB HCk.out.2; have b2 := cell_later kB HCj.out; have z0 := World.block_lt_of_cell? _ _ b0;go_simp; (try with_reducible rfl)
          (try simp only [cq])
          refine tkY 43 (some 107) ?_ ?_ ?_
          rotate_left
          · intro w hS0; (try dsimp only at hS0); have kB := hS0.2; have b0 := cell_later kB HCk.out.1; have b1 := cell_later kB HCk.out.2; have b2 := cell_later kB HCj.out; have z0 := World.block_lt_of_cell? _ _ b0;go_simp; (try with_reducible rfl)
          (try simp only [cq])
          refine tkY 44 (some 108) ?_ ?_ ?_
          rotate_left
          · intro w _; go_simp; (try with_reducible rfl)
          (try simp only [cq])
          refine tkY 45 (some 109) ?_ ?_ ?_
          rotate_left
          · intro w _; go_simp; (try with_reducible rfl)
          (try simp only [cq])
          refine wpAnyH_done (by kernel_rfl) ?_ _
          (try dsimp only [Act.put])
          (try simp only [cq])
          clear jR hB
          obtain ⟨jR, hB⟩ := hH
          go_wp2_with fail
          go_meet
          exact ⟨rfl, jR, hB⟩
      case rest =>
        clear jR hB hr
        obtain ⟨rfl, jR, hB⟩ := hcut
        have hr : ∀ z, u11.ownBlock = some z → V.heap.size ≤ z := fun z e => (jR.lt z e).1
        have zV := hB.size
        by_cases h3 : k < 3
        · have h3i : (k : Int) < 3 := by omega
          simp only at ea0 ea1 ea2
          have ea3 : B k < 1001 := by simpa using ea2
          obtain ⟨x, hx⟩ : ∃ x, A k = x := ⟨_, rfl⟩
          obtain ⟨y, hy⟩ : ∃ y, B k = y := ⟨_, rfl⟩
          rw [hx] at HCk ea0 ea1
          rw [hy] at HCk ea1 ea3
          have ew1 : IntKind.i64.wrap (x - 1) = x - 1 := IntWalk.i64_in _ (by omega)
          have ew2 : IntKind.i64.wrap (y + 1) = y + 1 := IntWalk.i64_in _ (by omega)
          clear hx hy ea2
          have jRd := jR.drew
          go_upto_region 16 with fail
          (
 refine wp_region_held_drew (S := (fun v => Below V.heap.size V v)) (by kernel_rfl) ?_ (fun hH => ?_)
 · (try dsimp only); (exact hB.drew)
 refine tkY 0 (some 112) ?_ ?_ ?_
 rotate_left
 · intro w _; go_simp; (try with_reducible rfl)
 (try simp only [cq])
 refine tkY 1 (some 113) ?_ ?_ ?_
 rotate_left
 · intro w _; go_simp; (try with_reducible rfl)
 (try simp only [cq])
 refine tkY 2 (some 114) ?_ ?_ ?_
 rotate_left
 · intro w _; go_simp; (try with_reducible rfl)
 (try simp only [cq])
 refine tkY 3 (some 115) ?_ ?_ ?_
 rotate_left
 · intro w hS0; (try dsimp only at hS0); have b0 := cell_later hS0 HCk.out.1; have b1 := cell_later hS0 HCk.out.2; have z0 := World.block_lt_of_cell? _ _ b0;go_simp; (try with_reducible rfl)
 (try simp only [cq])
 refine tkY 4 (some 116) ?_ ?_ ?_
 rotate_left
 · intro w hS0; (try dsimp only at hS0); have b0 := cell_later hS0 HCk.out.1; have b1 := cell_later hS0 HCk.out.2; have z0 := World.block_lt_of_cell? _ _ b0;go_simp; (try with_reducible rfl)
 (try simp only [cq])
 refine tkY 5 (some 117) ?_ ?_ ?_
 rotate_left
 · intro w hS0; (try dsimp only at hS0); have b0 := cell_later hS0 HCk.out.1; have b1 := cell_later hS0 HCk.out.2; have z0 := World.block_lt_of_cell? _ _ b0;go_simp; (try with_reducible rfl)
 (try simp only [cq])
 refine tkY 6 (some 118) ?_ ?_ ?_
 rotate_left
 · intro w _; go_simp; (try with_reducible rfl)
 (try simp only [cq])
 refine tkY 7 (some 119) ?_ ?_ ?_
 rotate_left
 · intro w _; go_simp; (try with_reducible rfl)
 (try simp only [cq])
 refine tkY 8 (some 120) ?_ ?_ ?_
 rotate_left
 · intro w hS0; (try dsimp only at hS0); have b0 := cell_later hS0 HCk.out.1; have b1 := cell_later hS0 HCk.out.2; have z0 := World.block_lt_of_cell? _ _ b0;go_simp; (try with_reducible rfl)
 (try simp only [cq])
 refine tkY 9 (some 121) ?_ ?_ ?_
 rotate_left
 · intro w hS0; (try dsimp only at hS0); have b0 := cell_later hS0 HCk.out.1; have b1 := cell_later hS0 HCk.out.2; have z0 := World.block_lt_of_cell? _ _ b0;go_simp; (try with_reducible rfl)
 (try simp only [cq])
 refine tkY 10 (some 122) ?_ ?_ ?_
 rotate_left
 · intro w hS0; (try dsimp only at hS0); have b0 := cell_later hS0 HCk.out.1; have b1 := cell_later hS0 HCk.out.2; have z0 := World.block_lt_of_cell? _ _ b0;go_simp; (try with_reducible rfl)
 (try simp only [cq])
 refine tkY 11 (some 123) ?_ ?_ ?_
 rotate_left
 · intro w _; go_simp; (try with_reducible rfl)
 (try simp only [cq])
 refine tkY 12 (some 124) ?_ ?_ ?_
 rotate_left
 · intro w _; go_simp; (try with_reducible rfl)
 (try simp only [cq])
 refine tkY 13 (some 125) ?_ ?_ ?_
 rotate_left
 · intro w hS0; (try dsimp only at hS0); have b0 := cell_later hS0 HCk.out.1; have b1 := cell_later hS0 HCk.out.2; have z0 := World.block_lt_of_cell? _ _ b0;go_simp; (try with_reducible rfl)
 (try simp only [cq])
 refine tkY 14 (some 126) ?_ ?_ ?_
 rotate_left
 · intro w hS0; (try dsimp only at hS0); have b0 := cell_later hS0 HCk.out.1; have b1 := cell_later hS0 HCk.out.2; have z0 := World.block_lt_of_cell? _ _ b0;go_simp; (try with_reducible rfl)
 (try simp only [cq])
 refine tkY 15 (some 127) ?_ ?_ ?_
 rotate_left
 · intro w hS0; (try dsimp only at hS0); have b0 := cell_later hS0 HCk.out.1; have b1 := cell_later hS0 HCk.out.2; have z0 := World.block_lt_of_cell? _ _ b0;go_simp; (try with_reducible rfl)
 (try simp only [cq])
 refine tkY 16 (some 128) ?_ ?_ ?_
 rotate_left
 · intro w _; go_simp; (try with_reducible rfl)
 (try simp only [cq])
 refine tkY 17 (some 129) ?_ ?_ ?_
 rotate_left
 · intro w hS0; (try dsimp only at hS0); have b0 := cell_later hS0 HCk.out.1; have b1 := cell_later hS0 HCk.out.2; have z0 := World.block_lt_of_cell? _ _ b0;go_simp; (try with_reducible rfl)
 (try simp only [cq])
 refine tkY 18 (some 130) ?_ ?_ ?_
 rotate_left
 · intro w _; go_simp; (try with_reducible rfl)
 (try simp only [cq])
 refine tkY 19 (some 131) ?_ ?_ ?_
 rotate_left
 · intro w _; go_simp; (try with_reducible rfl)
 (try simp only [cq])
 refine tkY 20 (some 132) ?_ ?_ ?_
 rotate_left
 · intro w hS0; (try dsimp only at hS0); have b0 := cell_later hS0 HCk.out.1; have b1 := cell_later hS0 HCk.out.2; have z0 := World.block_lt_of_cell? _ _ b0;go_simp; (try with_reducible rfl)
 (try simp only [cq])
 refine tkY 21 (some 133) ?_ ?_ ?_
 rotate_left
 · intro w hS0; (try dsimp only at hS0); have b0 := cell_later hS0 HCk.out.1; have b1 := cell_later hS0 HCk.out.2; have z0 := World.block_lt_of_cell? _ _ b0;go_simp; (try with_reducible rfl)
 (try simp only [cq])
 refine tkY 22 (some 134) ?_ ?_ ?_
 rotate_left
 · intro w hS0; (try dsimp only at hS0); have b0 := cell_later hS0 HCk.out.1; have b1 := cell_later hS0 HCk.out.2; have z0 := World.block_lt_of_cell? _ _ b0;go_simp; (try with_reducible rfl)
 (try simp only [cq])
 refine tkY 23 (some 135) ?_ ?_ ?_
 rotate_left
 · intro w _; go_simp; (try with_reducible rfl)
 (try simp only [cq])
 refine tkY 24 (some 136) ?_ ?_ ?_
 rotate_left
 · intro w hS0; (try dsimp only at hS0); have b0 := cell_later hS0 HCk.out.1; have b1 := cell_later hS0 HCk.out.2; have z0 := World.block_lt_of_cell? _ _ b0;go_simp; (try with_reducible rfl)
 (try simp only [cq])
 refine wpAnyH_ready (rs := [25]) (by kernel_rfl) (by simp) ?_
 refine arc1 (some 137) fun K hK => ?_
 have zz := hH.size
 go_simp
 first | refine oA hK ?_ (fun hH hA => ?_) | refine oD hK ?_ (fun hH hA => ?_)
 · exact hH.alloc hH.size _
 have kN := hA
 clear hA
 obtain ⟨bN, hbN⟩ : ∃ b, Blk.num kN = b := ⟨_, rfl⟩
 obtain ⟨Wn, hWn⟩ : ∃ V, Blk.wld kN = V := ⟨_, rfl⟩
 simp only [Blk.num] at hbN
 simp only [Blk.wld] at hWn
 first | replace jRd := awR hWn jRd | replace jRd := awRD hWn jRd | replace jRd := awRD hWn jR
 rw [hWn] at hH kN ⊢
 have zN : V.heap.size ≤ bN := (by rw [← hbN]; exact zz)
 rw [hbN] at kN ⊢
 clear hbN hWn zz
 clear hK K
 (try simp only [cq])
 refine wpAnyH_ready (rs := [26]) (by kernel_rfl) (by simp) ?_
 refine arc1 (some 138) fun K hK => ?_
 rw [if_pos (by rfl)]
 obtain ⟨v', w8, hr8, hown, hgrow, _, _⟩ := run_append_own_at (P := Try.prog) _ V.heap.size 27 27 3 i0 (.int .i64 0) 1 8 Try.underlying27 hi0' hz0 hz1 hz2 rfl (by decide) u11 c (catC (intC X) c) jRd ⟨bN, 0, none⟩ 4 4 [.int .i64 x, .int .i64 y, .int .i64 (max 0 (x - 1)), .int .i64 (min 1000 (y + 1))] rfl (news_four kN) (one4 _ _ _ _) (by unfold maxLen; omega) (by omega) (by have := kN.lt; omega)
 simp only [Oper.wp, execOp, resolve, invoke, builtin, Sem.run_bind, Sem.run_pure, Result.andThen_ok, List.map_toArray, List.map_cons, List.map_nil]
 change Oper.upon _ _ _ _ _ ((Sem.run Try.prog (Builtin.append_ #[27, 27] 27 #[u11, .slice (some ⟨bN, 0, none⟩) 4 4]) _).andThen _)
 rw [hr8]
 have hq : ∀ k, u11.ownBlock = some k → V.heap.size ≤ k := fun k e => (jRd.lt k e).1
 have HG := Lib.hid (show Below V.heap.size V w8 from hH.grown hgrow hH.size (fun k e => hq k e))
 rw [up4_row] at hown
 clear hgrow hr8 jRd kN hq
 simp only [Result.andThen_ok, Oper.upon]
 refine hK.out _ _ ?_ ?_
 · exact HG.out
 (try clear hH)
 intro hH
 clear hK K
 (try simp only [cq])
 refine tkY 27 (some 11) ?_ ?_ ?_
 rotate_left
 · intro w _; go_simp; (try with_reducible rfl)
 (try simp only [cq])
 refine wpAnyH_done (by kernel_rfl) ?_ _
 (try dsimp only [Act.put])
 (try simp only [cq])
 go_wp2
 go_roundw
 case rel => exact ⟨k + 1, c + 4, _, by go_num, by omega, by omega, up4_in HX.out (by omega) (by omega) (by omega) (by omega), hown, hH⟩
 case measure => simp [intOf]; omega )
        · have h3i : ¬ (k : Int) < 3 := by omega
          go_wp2
          go_roundw
          case rel => exact ⟨k + 1, c, X, by go_num, by omega, by omega, HX.out, jR, hB⟩
          case measure => simp [intOf]; omega
    · obtain rfl : k = m := by omega
      obtain ⟨V2, hVV⟩ : ∃ V2, V2 = wr := ⟨_, rfl⟩
      subst hVV
      have hI := ints_of_row jR
      obtain ⟨aI, cI, rfl, _, _, hI3⟩ := id hI
      have HI3 := Lib.hid hI3
      have HO2 := Lib.hid (HO.out.call hB)
      have HD2 := Lib.hid (HD.out.call hB)
      have HN2 := Lib.hid (HN.out.call hB)
      have HU2 := Lib.hid (HU.out.later hB)
      have HB2 := Lib.hid (bwS HB.out (by have := HB.out.size; omega) hB)
      have T1 := PairsAt.later HT1.out hB
      have T2 := PairsAt.later HT2.out hB
      have HSd : Hid (∀ (v : Nat), v ≤ 1000 → ∀ (d0 d1 s : Int), 0 ≤ d0 ∧ d0 ≤ d1 ∧ d1 ≤ 10000 → 0 ≤ s ∧ s ≤ 100000 → ∀ W, Below V2.heap.size V2 W → Calls Try.prog 44 #[.agg #[.int .i64 p2.s0, .int .i64 p2.s1, (.slice aO p2.S.n cO), (.slice aQ p2.C.n cQ), .int .i64 p2.ne, .int .i64 p2.ed, .int .i64 p2.gr, .int .i64 p2.lo, .int .i64 p2.hi, .int .i64 p2.sh, .int .i64 p2.wi], .agg #[.int .i64 d0, .int .i64 d1], .int .i64 s, .int .i64 v] W fun e w' => e = .returned (.tuple #[.int .i64 (calmV p2 d0 d1 s v), .int .i64 0]) ∧ Below W.heap.size W w') := fun v hv d0 d1 s hd hs W hW => by
        have hE : eSpd p2 d0 d1 s v = 0 := orE_ok (orE_ok (ePl_ok HP.out) (orE_ok (eS_ok hd.1 hd.2.1 hd.2.2) (eN_ok hs.1 hs.2))) (eN_ok (by omega) (by omega))
        refine (speed_any p2 _ _ d0 d1 s (v : Int) W (PairsAt.later T1 hW) (PairsAt.later T2 hW)).mono ?_
        rintro e w' ⟨r, rfl, h1, _, hb⟩
        rw [h1 hE, hE]
        exact ⟨rfl, hb⟩
      have HF2 := Below.refl V2.heap.size V2
      clear hB jR hI hI3 HO HD HN HU HB HT1 HT2 T1 T2
      go_wp2_with fail
      go_loopw [13] (fun i wx => ∃ q : Nat, i = .int .i64 q ∧ q ≤ c ∧ Below V2.heap.size V2 wx) (fun i _ => c - (intOf i).toNat)
      case atStart => exact ⟨0, rfl, Nat.zero_le _, HF2⟩
      case round =>
        clear HF2
        obtain ⟨q, rfl, hq, hB⟩ := hrel
        by_cases hlq : q < c
        · have hqc : (q : Int) < (c : Int) := by omega
          obtain ⟨b3, o3, rfl, hI4⟩ := HI3.out (by omega)
          have hxq := HX.out q hlq
          have hcq := hI4 q hlq
          obtain ⟨v, hv⟩ : ∃ v : Nat, (v : Int) = X q := ⟨(X q).toNat, by omega⟩
          rw [← hv] at hxq hcq
          have hv1 : v ≤ 1000 := by omega
          have HT := Lib.hid hcq
          clear hv hcq hI4
          go_wp2_with fail
          go_loopw [14, 15] (fun s14 i wy => ∃ k' : Nat, i = .int .i64 k' ∧ s14 = .bool (inV A B (v : Int) k') ∧ k' ≤ k ∧ Below V2.heap.size V2 wy) (fun _ i _ => k - (intOf i).toNat)
          case atStart => exact ⟨0, rfl, rfl, Nat.zero_le _, hB⟩
          case round =>
            clear hB
            obtain ⟨k', rfl, rfl, hk', hB⟩ := hrel
            by_cases hlk : k' < k
            · obtain ⟨aU', cU', hvu, _, _, h3⟩ := HU2.out
              simp only [Value.slice.injEq] at hvu
              obtain ⟨rfl, _, rfl⟩ := hvu
              obtain ⟨b, o, rfl, hcc⟩ := h3 (by omega)
              have hkm : (k' : Int) < (k : Int) := by omega
              have HCk := Lib.hid (hcc k' hlk)
              have HIn : Hid (inV A B (v : Int) (k' + 1) = (inV A B (v : Int) k' || (decide (A k' ≤ (v : Int)) && decide ((v : Int) ≤ B k')))) := rfl
              clear hcc h3
              obtain ⟨x, hx⟩ : ∃ x, A k' = x := ⟨_, rfl⟩
              obtain ⟨y, hy⟩ : ∃ y, B k' = y := ⟨_, rfl⟩
              rw [hx] at HCk HIn
              rw [hy] at HCk HIn
              clear hx hy
              obtain ⟨z, hz⟩ : ∃ z, inV A B (v : Int) k' = z := ⟨_, rfl⟩
              obtain ⟨z2, hz2⟩ : ∃ z, inV A B (v : Int) (k' + 1) = z := ⟨_, rfl⟩
              rw [hz, hz2] at HIn
              (try rw [hz])
              have HZ2 := Lib.hid hz2
              clear hz hz2
              cases z with
              | true =>
                go_upto_region 24 with fail
                refine wp_region_held_drew (S := (fun v => Below V2.heap.size V2 v)) (by kernel_rfl) ?_ (fun hH => ?_)
                · (try dsimp only); (exact hB.drew)
                refine tkY 0 (some 151) ?_ ?_ ?_
                rotate_left
                · intro w _; go_simp; (try with_reducible rfl)
                (try simp only [cq])
                refine tkY 1 (some 152) ?_ ?_ ?_
                rotate_left
                · intro w _; go_simp; (try with_reducible rfl)
                (try simp only [cq])
                refine tkN 2 (some 153) ?_
                (try simp only [cq])
                refine tkN 3 (some 154) ?_
                (try simp only [cq])
                refine tkN 4 (some 155) ?_
                (try simp only [cq])
                refine tkN 5 (some 156) ?_
                (try simp only [cq])
                refine tkN 6 (some 157) ?_
                (try simp only [cq])
                refine tkN 7 (some 158) ?_
                (try simp only [cq])
                refine tkN 8 (some 159) ?_
                (try simp only [cq])
                refine tkN 9 (some 160) ?_
                (try simp only [cq])
                refine tkN 10 (some 161) ?_
                (try simp only [cq])
                refine tkY 11 (some 162) ?_ ?_ ?_
                rotate_left
                · intro w _; go_simp; (try with_reducible rfl)
                (try simp only [cq])
                refine tkY 12 (some 14) ?_ ?_ ?_
                rotate_left
                · intro w _; go_simp; (try with_reducible rfl)
                (try simp only [cq])
                refine wpAnyH_done (by kernel_rfl) ?_ _
                (try dsimp only [Act.put])
                (try simp only [cq])
                clear hB
                have hB := hH
                clear hH
                go_wp2
                go_roundw
                case rel => exact ⟨k' + 1, by go_num, by rw [HZ2.out, HIn.out]; rfl, by omega, hB⟩
                case measure => simp [intOf]; omega
              | false =>
                go_upto_region 24 with fail
                refine wp_region_held_drew (S := (fun v => Below V2.heap.size V2 v)) (by kernel_rfl) ?_ (fun hH => ?_)
                · (try dsimp only); (exact hB.drew)
                refine tkY 0 (some 151) ?_ ?_ ?_
                rotate_left
                · intro w _; go_simp; (try with_reducible rfl)
                (try simp only [cq])
                refine tkY 1 (some 152) ?_ ?_ ?_
                rotate_left
                · intro w _; go_simp; (try with_reducible rfl)
                (try simp only [cq])
                refine tkY 2 (some 153) ?_ ?_ ?_
                rotate_left
                · intro w _; go_simp; (try with_reducible rfl)
                (try simp only [cq])
                refine tkY 3 (some 154) ?_ ?_ ?_
                rotate_left
                · intro w _; go_simp; (try with_reducible rfl)
                (try simp only [cq])
                refine tkY 4 (some 155) ?_ ?_ ?_
                rotate_left
                · intro w hS0; (try dsimp only at hS0); have b0 := cell_later hS0 HCk.out.1; have b1 := cell_later hS0 HCk.out.2; have t0 := cell_later hS0 HT.out; have z0 := World.block_lt_of_cell? _ _ b0; have z1 := World.block_lt_of_cell? _ _ t0;go_simp; (try with_reducible rfl)
                (try simp only [cq])
                refine tkY 5 (some 156) ?_ ?_ ?_
                rotate_left
                · intro w hS0; (try dsimp only at hS0); have b0 := cell_later hS0 HCk.out.1; have b1 := cell_later hS0 HCk.out.2; have t0 := cell_later hS0 HT.out; have z0 := World.block_lt_of_cell? _ _ b0; have z1 := World.block_lt_of_cell? _ _ t0;go_simp; (try with_reducible rfl)
                (try simp only [cq])
                refine tkY 6 (some 157) ?_ ?_ ?_
                rotate_left
                · intro w _; go_simp; (try with_reducible rfl)
                (try simp only [cq])
                refine tkY 7 (some 158) ?_ ?_ ?_
                rotate_left
                · intro w _; go_simp; (try with_reducible rfl)
                (try simp only [cq])
                refine tkY 8 (some 159) ?_ ?_ ?_
                rotate_left
                · intro w hS0; (try dsimp only at hS0); have b0 := cell_later hS0 HCk.out.1; have b1 := cell_later hS0 HCk.out.2; have t0 := cell_later hS0 HT.out; have z0 := World.block_lt_of_cell? _ _ b0; have z1 := World.block_lt_of_cell? _ _ t0;go_simp; (try with_reducible rfl)
                (try simp only [cq])
                refine tkY 9 (some 160) ?_ ?_ ?_
                rotate_left
                · intro w hS0; (try dsimp only at hS0); have b0 := cell_later hS0 HCk.out.1; have b1 := cell_later hS0 HCk.out.2; have t0 := cell_later hS0 HT.out; have z0 := World.block_lt_of_cell? _ _ b0; have z1 := World.block_lt_of_cell? _ _ t0;go_simp; (try with_reducible rfl)
                (try simp only [cq])
                refine wpAnyH_ready (rs := [10]) (by kernel_rfl) (by simp) ?_
                refine arc1 (some 161) fun K hK => ?_
                go_simp
                (refine (khas_any _ _ _ _).mono ?_; rintro e w' ⟨rfl, hb⟩)
                refine hK.out _ _ ?_ ?_
                · (exact bwS hH (Nat.le_refl _) hb)
                (try clear hH); (try clear hb)
                intro hH
                clear hK K
                (try simp only [cq])
                refine tkY 11 (some 162) ?_ ?_ ?_
                rotate_left
                · intro w _; go_simp; (try with_reducible rfl)
                (try simp only [cq])
                refine tkY 12 (some 14) ?_ ?_ ?_
                rotate_left
                · intro w _; go_simp; (try with_reducible rfl)
                (try simp only [cq])
                refine wpAnyH_done (by kernel_rfl) ?_ _
                (try dsimp only [Act.put])
                (try simp only [cq])
                clear hB
                have hB := hH
                clear hH
                go_wp2
                go_roundw
                case rel => exact ⟨k' + 1, by go_num, by rw [HZ2.out, HIn.out, Bool.false_or], by omega, hB⟩
                case measure => simp [intOf]; omega
            · obtain rfl : k' = k := by omega
              have hall := HOk.out.all v (by omega)
              have hiv := inV_iff A B (v : Int) k'
              have F12 : calmV p2 lo hi sh v ≠ 3 → calmV p2 n0 n1 sh v = calmV p2 lo hi sh v := fun h => calm_within lo0 n00 n01 n11 h
              have F13 : calmV p2 lo hi sh v = 1 → calmV p2 lo hi 100000 v = 1 := fun h => calm_shore HP.out lo0 hi0 (by have := HP.out.sh1; omega) h
              have F1 := calm_in p2 lo hi sh (v : Int)
              have his : inV A B (v : Int) k' = decide (calmV p2 lo hi sh v = 1) := by
                have e1 : inV A B (v : Int) k' = true ↔ spdF p2 lo hi sh v = true := hiv.trans hall.symm
                have e2 : spdF p2 lo hi sh v = decide (calmV p2 lo hi sh v = 1) := rfl
                rw [← e2]
                cases h1 : inV A B (v : Int) k' with
                | true => exact (e1.1 h1).symm
                | false =>
                  cases h2 : spdF p2 lo hi sh v with
                  | false => rfl
                  | true => rw [e1.2 h2] at h1; simp at h1
              rw [his]
              have HS1 := Lib.hid (HSd.out v hv1 lo hi sh ⟨lo0, hi0, hi1⟩ ⟨sh0, by omega⟩)
              have HS2 := Lib.hid (HSd.out v hv1 n0 n1 sh ⟨by omega, n01, by omega⟩ ⟨sh0, by omega⟩)
              have HS3 := Lib.hid (HSd.out v hv1 lo hi 100000 ⟨lo0, hi0, hi1⟩ ⟨by decide, by decide⟩)
              clear hall hiv his
              generalize calmV p2 lo hi sh v = r1 at HS1 F12 F13 F1 ⊢
              generalize calmV p2 n0 n1 sh v = r2 at HS2 F12
              generalize calmV p2 lo hi 100000 v = r3 at HS3 F13
              have HFF := Lib.hid (And.intro F12 (And.intro F13 F1))
              clear F12 F13 F1
              go_upto_region 25 with fail
              refine wp_region_held_drew (S := (fun x => Below V2.heap.size V2 x)) (by kernel_rfl) ?_ (fun hH => ?_)
              · (try dsimp only); (exact hB.drew)
              refine tkY 0 (some 164) ?_ ?_ ?_
              rotate_left
              · intro w hS0; (try dsimp only at hS0); have kB := hS0; obtain ⟨d0, d1, d2, d3, d4, d5, d6, d7, d8, d9, d10⟩ := (HO2.out.call kB).c11; have y1 := (HO2.out.call kB).lt; obtain ⟨e0, e1⟩ := (HD2.out.call kB).c2; have y2 := (HD2.out.call kB).lt; have t0 := cell_later kB HT.out; have y3 := World.block_lt_of_cell? _ _ t0;go_simp; (try with_reducible rfl)
              (try simp only [cq])
              refine tkY 1 (some 165) ?_ ?_ ?_
              rotate_left
              · intro w hS0; (try dsimp only at hS0); have kB := hS0; obtain ⟨d0, d1, d2, d3, d4, d5, d6, d7, d8, d9, d10⟩ := (HO2.out.call kB).c11; have y1 := (HO2.out.call kB).lt; obtain ⟨e0, e1⟩ := (HD2.out.call kB).c2; have y2 := (HD2.out.call kB).lt; have t0 := cell_later kB HT.out; have y3 := World.block_lt_of_cell? _ _ t0;go_simp; (try with_reducible rfl)
              (try simp only [cq])
              refine tkY 2 (some 166) ?_ ?_ ?_
              rotate_left
              · intro w _; go_simp; (try with_reducible rfl)
              (try simp only [cq])
              refine tkY 3 (some 167) ?_ ?_ ?_
              rotate_left
              · intro w _; go_simp; (try with_reducible rfl)
              (try simp only [cq])
              refine tkY 4 (some 168) ?_ ?_ ?_
              rotate_left
              · intro w _; go_simp; (try with_reducible rfl)
              (try simp only [cq])
              refine tkY 5 (some 169) ?_ ?_ ?_
              rotate_left
              · intro w hS0; (try dsimp only at hS0); have kB := hS0; obtain ⟨d0, d1, d2, d3, d4, d5, d6, d7, d8, d9, d10⟩ := (HO2.out.call kB).c11; have y1 := (HO2.out.call kB).lt; obtain ⟨e0, e1⟩ := (HD2.out.call kB).c2; have y2 := (HD2.out.call kB).lt; have t0 := cell_later kB HT.out; have y3 := World.block_lt_of_cell? _ _ t0;go_simp; (try with_reducible rfl)
              (try simp only [cq])
              refine tkY 6 (some 170) ?_ ?_ ?_
              rotate_left
              · intro w hS0; (try dsimp only at hS0); have kB := hS0; obtain ⟨d0, d1, d2, d3, d4, d5, d6, d7, d8, d9, d10⟩ := (HO2.out.call kB).c11; have y1 := (HO2.out.call kB).lt; obtain ⟨e0, e1⟩ := (HD2.out.call kB).c2; have y2 := (HD2.out.call kB).lt; have t0 := cell_later kB HT.out; have y3 := World.block_lt_of_cell? _ _ t0;go_simp; (try with_reducible rfl)
              (try simp only [cq])
              refine wpAnyH_ready (rs := [7]) (by kernel_rfl) (by simp) ?_
              refine arc1 (some 171) fun K hK => ?_
              go_simp
              (refine (HS1.out _ hH).mono ?_; rintro e w' ⟨rfl, hb⟩)
              refine hK.out _ _ ?_ ?_
              · (exact bwS hH (Nat.le_refl _) hb)
              (try clear hH); (try clear hb)
              intro hH
              clear hK K
              (try simp only [cq])
              refine tkY 8 (some 163) ?_ ?_ ?_
              rotate_left
              · intro w _; go_simp; (try with_reducible rfl)
              (try simp only [cq])
              refine tkY 9 (some 172) ?_ ?_ ?_
              rotate_left
              · intro w _; go_simp; (try with_reducible rfl)
              (try simp only [cq])
              refine tkY 10 (some 173) ?_ ?_ ?_
              rotate_left
              · intro w _; go_simp; (try with_reducible rfl)
              (try simp only [cq])
              refine tkY 11 (some 16) ?_ ?_ ?_
              rotate_left
              · intro w _; go_simp; (try with_reducible rfl)
              (try simp only [cq])
              refine tkY 12 (some 17) ?_ ?_ ?_
              rotate_left
              · intro w _; go_simp; (try with_reducible rfl)
              (try simp only [cq])
              refine wpAnyH_done (by kernel_rfl) ?_ _
              (try dsimp only [Act.put])
              (try simp only [cq])
              clear hB HS1
              have hB := hH
              clear hH
              go_upto_region 26 with fail
              refine wp_region_held_drew (S := (fun x => Below V2.heap.size V2 x)) (by kernel_rfl) ?_ (fun hH => ?_)
              · (try dsimp only); (exact hB.drew)
              refine tkY 0 (some 175) ?_ ?_ ?_
              rotate_left
              · intro w hS0; (try dsimp only at hS0); have kB := hS0; obtain ⟨d0, d1, d2, d3, d4, d5, d6, d7, d8, d9, d10⟩ := (HO2.out.call kB).c11; have y1 := (HO2.out.call kB).lt; obtain ⟨e0, e1⟩ := (HN2.out.call kB).c2; have y2 := (HN2.out.call kB).lt; have t0 := cell_later kB HT.out; have y3 := World.block_lt_of_cell? _ _ t0;go_simp; (try with_reducible rfl)
              (try simp only [cq])
              refine tkY 1 (some 176) ?_ ?_ ?_
              rotate_left
              · intro w hS0; (try dsimp only at hS0); have kB := hS0; obtain ⟨d0, d1, d2, d3, d4, d5, d6, d7, d8, d9, d10⟩ := (HO2.out.call kB).c11; have y1 := (HO2.out.call kB).lt; obtain ⟨e0, e1⟩ := (HN2.out.call kB).c2; have y2 := (HN2.out.call kB).lt; have t0 := cell_later kB HT.out; have y3 := World.block_lt_of_cell? _ _ t0;go_simp; (try with_reducible rfl)
              (try simp only [cq])
              refine tkY 2 (some 177) ?_ ?_ ?_
              rotate_left
              · intro w _; go_simp; (try with_reducible rfl)
              (try simp only [cq])
              refine tkY 3 (some 178) ?_ ?_ ?_
              rotate_left
              · intro w _; go_simp; (try with_reducible rfl)
              (try simp only [cq])
              refine tkY 4 (some 179) ?_ ?_ ?_
              rotate_left
              · intro w _; go_simp; (try with_reducible rfl)
              (try simp only [cq])
              refine tkY 5 (some 180) ?_ ?_ ?_
              rotate_left
              · intro w hS0; (try dsimp only at hS0); have kB := hS0; obtain ⟨d0, d1, d2, d3, d4, d5, d6, d7, d8, d9, d10⟩ := (HO2.out.call kB).c11; have y1 := (HO2.out.call kB).lt; obtain ⟨e0, e1⟩ := (HN2.out.call kB).c2; have y2 := (HN2.out.call kB).lt; have t0 := cell_later kB HT.out; have y3 := World.block_lt_of_cell? _ _ t0;go_simp; (try with_reducible rfl)
              (try simp only [cq])
              refine tkY 6 (some 181) ?_ ?_ ?_
              rotate_left
              · intro w hS0; (try dsimp only at hS0); have kB := hS0; obtain ⟨d0, d1, d2, d3, d4, d5, d6, d7, d8, d9, d10⟩ := (HO2.out.call kB).c11; have y1 := (HO2.out.call kB).lt; obtain ⟨e0, e1⟩ := (HN2.out.call kB).c2; have y2 := (HN2.out.call kB).lt; have t0 := cell_later kB HT.out; have y3 := World.block_lt_of_cell? _ _ t0;go_simp; (try with_reducible rfl)
              (try simp only [cq])
              refine wpAnyH_ready (rs := [7]) (by kernel_rfl) (by simp) ?_
              refine arc1 (some 182) fun K hK => ?_
              go_simp
              (refine (HS2.out _ hH).mono ?_; rintro e w' ⟨rfl, hb⟩)
              refine hK.out _ _ ?_ ?_
              · (exact bwS hH (Nat.le_refl _) hb)
              (try clear hH); (try clear hb)
              intro hH
              clear hK K
              (try simp only [cq])
              refine tkY 8 (some 174) ?_ ?_ ?_
              rotate_left
              · intro w _; go_simp; (try with_reducible rfl)
              (try simp only [cq])
              refine tkY 9 (some 183) ?_ ?_ ?_
              rotate_left
              · intro w _; go_simp; (try with_reducible rfl)
              (try simp only [cq])
              refine tkY 10 (some 184) ?_ ?_ ?_
              rotate_left
              · intro w _; go_simp; (try with_reducible rfl)
              (try simp only [cq])
              refine tkY 11 (some 18) ?_ ?_ ?_
              rotate_left
              · intro w _; go_simp; (try with_reducible rfl)
              (try simp only [cq])
              refine tkY 12 (some 19) ?_ ?_ ?_
              rotate_left
              · intro w _; go_simp; (try with_reducible rfl)
              (try simp only [cq])
              refine wpAnyH_done (by kernel_rfl) ?_ _
              (try dsimp only [Act.put])
              (try simp only [cq])
              clear hB HS2
              have hB := hH
              clear hH
              go_upto_region 27 with fail
              refine wp_region_held_drew (S := (fun x => Below V2.heap.size V2 x)) (by kernel_rfl) ?_ (fun hH => ?_)
              · (try dsimp only); (exact hB.drew)
              refine tkY 0 (some 186) ?_ ?_ ?_
              rotate_left
              · intro w hS0; (try dsimp only at hS0); have kB := hS0; obtain ⟨d0, d1, d2, d3, d4, d5, d6, d7, d8, d9, d10⟩ := (HO2.out.call kB).c11; have y1 := (HO2.out.call kB).lt; obtain ⟨e0, e1⟩ := (HD2.out.call kB).c2; have y2 := (HD2.out.call kB).lt; have t0 := cell_later kB HT.out; have y3 := World.block_lt_of_cell? _ _ t0;go_simp; (try with_reducible rfl)
              (try simp only [cq])
              refine tkY 1 (some 187) ?_ ?_ ?_
              rotate_left
              · intro w hS0; (try dsimp only at hS0); have kB := hS0; obtain ⟨d0, d1, d2, d3, d4, d5, d6, d7, d8, d9, d10⟩ := (HO2.out.call kB).c11; have y1 := (HO2.out.call kB).lt; obtain ⟨e0, e1⟩ := (HD2.out.call kB).c2; have y2 := (HD2.out.call kB).lt; have t0 := cell_later kB HT.out; have y3 := World.block_lt_of_cell? _ _ t0;go_simp; (try with_reducible rfl)
              (try simp only [cq])
              refine tkY 2 (some 188) ?_ ?_ ?_
              rotate_left
              · intro w _; go_simp; (try with_reducible rfl)
              (try simp only [cq])
              refine tkY 3 (some 189) ?_ ?_ ?_
              rotate_left
              · intro w _; go_simp; (try with_reducible rfl)
              (try simp only [cq])
              refine tkY 4 (some 190) ?_ ?_ ?_
              rotate_left
              · intro w hS0; (try dsimp only at hS0); have kB := hS0; obtain ⟨d0, d1, d2, d3, d4, d5, d6, d7, d8, d9, d10⟩ := (HO2.out.call kB).c11; have y1 := (HO2.out.call kB).lt; obtain ⟨e0, e1⟩ := (HD2.out.call kB).c2; have y2 := (HD2.out.call kB).lt; have t0 := cell_later kB HT.out; have y3 := World.block_lt_of_cell? _ _ t0;go_simp; (try with_reducible rfl)
              (try simp only [cq])
              refine tkY 5 (some 191) ?_ ?_ ?_
              rotate_left
              · intro w hS0; (try dsimp only at hS0); have kB := hS0; obtain ⟨d0, d1, d2, d3, d4, d5, d6, d7, d8, d9, d10⟩ := (HO2.out.call kB).c11; have y1 := (HO2.out.call kB).lt; obtain ⟨e0, e1⟩ := (HD2.out.call kB).c2; have y2 := (HD2.out.call kB).lt; have t0 := cell_later kB HT.out; have y3 := World.block_lt_of_cell? _ _ t0;go_simp; (try with_reducible rfl)
              (try simp only [cq])
              refine wpAnyH_ready (rs := [6]) (by kernel_rfl) (by simp) ?_
              refine arc1 (some 192) fun K hK => ?_
              go_simp
              (refine (HS3.out _ hH).mono ?_; rintro e w' ⟨rfl, hb⟩)
              refine hK.out _ _ ?_ ?_
              · (exact bwS hH (Nat.le_refl _) hb)
              (try clear hH); (try clear hb)
              intro hH
              clear hK K
              (try simp only [cq])
              refine tkY 7 (some 185) ?_ ?_ ?_
              rotate_left
              · intro w _; go_simp; (try with_reducible rfl)
              (try simp only [cq])
              refine tkY 8 (some 193) ?_ ?_ ?_
              rotate_left
              · intro w _; go_simp; (try with_reducible rfl)
              (try simp only [cq])
              refine tkY 9 (some 194) ?_ ?_ ?_
              rotate_left
              · intro w _; go_simp; (try with_reducible rfl)
              (try simp only [cq])
              refine tkY 10 (some 20) ?_ ?_ ?_
              rotate_left
              · intro w _; go_simp; (try with_reducible rfl)
              (try simp only [cq])
              refine tkY 11 (some 21) ?_ ?_ ?_
              rotate_left
              · intro w _; go_simp; (try with_reducible rfl)
              (try simp only [cq])
              refine wpAnyH_done (by kernel_rfl) ?_ _
              (try dsimp only [Act.put])
              (try simp only [cq])
              clear hB HS3
              have hB := hH
              clear hH
              obtain ⟨F12, F13, F1⟩ := HFF.out
              rcases F1 with e1 | e1 | e1
              · have e3 := F13 e1
                have e2 := F12 (by rw [e1]; decide)
                rw [e1] at e2
                subst e1 e2 e3
                clear HFF
                go_wp2
                go_roundw
                case rel => exact ⟨q + 1, by go_num, by omega, hB⟩
                case measure => simp [intOf]; omega
              · have e2 := F12 (by rw [e1]; decide)
                rw [e1] at e2
                subst e1 e2
                clear HFF F12 F13
                go_wp2
                go_roundw
                case rel => exact ⟨q + 1, by go_num, by omega, hB⟩
                case measure => simp [intOf]; omega
              · subst e1
                clear HFF F12 F13
                go_wp2
                go_roundw
                case rel => exact ⟨q + 1, by go_num, by omega, hB⟩
                case measure => simp [intOf]; omega
        · have jB := bwS HB2.out (by have := HB2.out.size; omega) hB
          clear hB
          go_wp2_with fail
          refine (awake_any _).mono ?_
          rintro e w9 ⟨rfl, hb⟩
          replace jB := bwS jB (Nat.le_refl _) hb
          go_wp2
          go_ret
          exact ⟨rfl, jB⟩
end Go.Proofs.Ytfakmggabicdjaa

/-
  BearApart says yes.
-/
import Derived.Test.YtfakmggabicdjaaGap2
import Derived.Test.YtfakmggabicdjaaRowOf
import Derived.Test.YtfakmggabicdjaaApt
import Derived.Test.YtfakmggabicdjaaAwk2
set_option linter.unusedVariables false
set_option linter.unusedSimpArgs false
namespace Go.Proofs.Ytfakmggabicdjaa
open Go.RowKit

set_option maxRecDepth 100000 in
set_option maxHeartbeats 16000000 in
theorem bapart_any (a : Option Addr) (len cap : Nat) (by0 : Int) (w : World) (hn : NumsAt w a len) :
    Calls Try.prog 14 #[.slice a len cap, .int .i64 by0] w fun e w' => e = .returned (.bool true) ∧ Below w.heap.size w w' := by
  go_enter Try.func14, Try.ntmps14
  go_wp2_with fail
  refine (newseed_at a len cap _ hn).mono ?_
  rintro e w2 ⟨rfl, hS, jB⟩
  obtain ⟨bs, hbs⟩ : ∃ b, w.heap.size = b := ⟨_, rfl⟩
  have zwbs : w.heap.size ≤ bs := by omega
  rw [hbs] at hS
  (try rw [hbs])
  clear hbs hn
  have hb1 := hS.choose_spec.lt
  go_wp2_with fail
  refine (plateof_in bs _ hS).mono ?_
  rintro e w3 ⟨p2, vO, vQ, rfl, hp, rO, rQ, hd⟩
  replace jB := Drawn.below jB hd zwbs
  replace hS := hd.seed
  replace rO := ownsRow_base (b1 := bs + 1) rO (by omega)
  replace rQ := ownsRow_base (b1 := bs + 1) rQ (by omega)
  clear hd hb1
  obtain ⟨aO, cO, rfl, _, _, _⟩ := pairs_of_row rO
  obtain ⟨aQ, cQ, rfl, _, _, _⟩ := pairs_of_row rQ
  go_wp2_with fail
  refine (from_in 0 1200 bs _ hS (by decide) (by decide) (by decide) (by decide)).mono ?_
  rintro e w4 ⟨th, rfl, th0, th1, hd⟩
  replace th1 : th ≤ 1200 := by omega
  replace rO := hd.row rO (by omega)
  replace rQ := hd.row rQ (by omega)
  replace jB := Drawn.below jB hd zwbs
  replace hS := hd.seed
  clear hd
  have jO := Blk.new w4 #[.int .i64 p2.s0, .int .i64 p2.s1, (.slice aO p2.S.n cO), (.slice aQ p2.C.n cQ), .int .i64 p2.ne, .int .i64 p2.ed, .int .i64 p2.gr, .int .i64 p2.lo, .int .i64 p2.hi, .int .i64 p2.sh, .int .i64 p2.wi] 26
  go_upto_region 3 with fail
  obtain ⟨bO, hbO⟩ : ∃ b, w4.heap.size = b := ⟨_, rfl⟩
  have zsO : bs < bO := by rw [← hbO]; exact hS.choose_spec.lt
  rw [hbO] at jO
  (try rw [hbO])
  clear hbO
  replace rO := rO.alloc (.cells #[.int .i64 p2.s0, .int .i64 p2.s1, (.slice aO p2.S.n cO), (.slice aQ p2.C.n cQ), .int .i64 p2.ne, .int .i64 p2.ed, .int .i64 p2.gr, .int .i64 p2.lo, .int .i64 p2.hi, .int .i64 p2.sh, .int .i64 p2.wi] 26)
  replace rQ := rQ.alloc (.cells #[.int .i64 p2.s0, .int .i64 p2.s1, (.slice aO p2.S.n cO), (.slice aQ p2.C.n cQ), .int .i64 p2.ne, .int .i64 p2.ed, .int .i64 p2.gr, .int .i64 p2.lo, .int .i64 p2.hi, .int .i64 p2.sh, .int .i64 p2.wi] 26)
  replace hS : SeedAt bs _ := hS.imp fun _ h => h.alloc (.cells #[.int .i64 p2.s0, .int .i64 p2.s1, (.slice aO p2.S.n cO), (.slice aQ p2.C.n cQ), .int .i64 p2.ne, .int .i64 p2.ed, .int .i64 p2.gr, .int .i64 p2.lo, .int .i64 p2.hi, .int .i64 p2.sh, .int .i64 p2.wi] 26)
  replace jB := bwA jB (Nat.le_refl _) (.cells #[.int .i64 p2.s0, .int .i64 p2.s1, (.slice aO p2.S.n cO), (.slice aQ p2.C.n cQ), .int .i64 p2.ne, .int .i64 p2.ed, .int .i64 p2.gr, .int .i64 p2.lo, .int .i64 p2.hi, .int .i64 p2.sh, .int .i64 p2.wi] 26)
  generalize w4.alloc (.cells #[.int .i64 p2.s0, .int .i64 p2.s1, (.slice aO p2.S.n cO), (.slice aQ p2.C.n cQ), .int .i64 p2.ne, .int .i64 p2.ed, .int .i64 p2.gr, .int .i64 p2.lo, .int .i64 p2.hi, .int .i64 p2.sh, .int .i64 p2.wi] 26) = V5 at jO rO rQ hS jB ⊢
  go_wp2_with fail
  refine (rowof_in 5 (by decide) bs _ hS).mono ?_
  rintro e V ⟨m, R0, R1, vR, rfl, m5, hR, rI, hd⟩
  have zz := hS.choose_spec.lt
  replace rI := ownsRow_base (b1 := bs + 1) rI (by omega)
  clear zz
  replace rO := hd.row rO (by omega)
  replace rQ := hd.row rQ (by omega)
  replace jO := hd.blk jO (by omega)
  replace jB := Drawn.below jB hd zwbs
  clear hd hS
  replace rO := pairs_of_row rO
  replace rQ := pairs_of_row rQ
  replace rI := pairs_of_row rI
  obtain ⟨aR, cR, rfl, _, _, _⟩ := id rI
  have jV := Below.refl V.heap.size V
  have hG0 := gap_any p2 (.slice aO p2.S.n cO) (.slice aQ p2.C.n cQ) (.slice aR m cR) th m R0 R1 V rO rQ rI
  have hE : eGap p2 th m R0 R1 = 0 := orE_ok (ePl_ok hp) (orE_ok (eN_ok th0 (by omega)) (eSps_ok (by omega) (fun i hi => by have := hR i hi; omega)))
  obtain ⟨q, hq⟩ : ∃ q, lstV (gapF p2 th m R0 R1) 10001 = q := ⟨_, rfl⟩
  have hgr : gapR p2 th m R0 R1 = if q ≤ 10000 then (q : Int) else -1 := by unfold gapR gapV; rw [if_pos hE, hq]
  rw [hE, hgr] at hG0
  have HG := Lib.hid hG0
  obtain ⟨f, hf⟩ : ∃ f : Nat → Bool, f = gapF p2 th m R0 R1 := ⟨_, rfl⟩
  have hup : ∀ i j, i ≤ j → f i = true → f j = true := by rw [hf]; exact gapF_up hp (fun i hi => by have := hR i hi; omega)
  have hpr := lstV_prop (gapF p2 th m R0 R1) 10001
  rw [hq, ← hf] at hpr
  have HSu : Hid (∀ W (g : Nat), g ≤ 5000 → Below V.heap.size V W → Calls Try.prog 67 #[.agg #[.int .i64 p2.s0, .int .i64 p2.s1, (.slice aO p2.S.n cO), (.slice aQ p2.C.n cQ), .int .i64 p2.ne, .int .i64 p2.ed, .int .i64 p2.gr, .int .i64 p2.lo, .int .i64 p2.hi, .int .i64 p2.sh, .int .i64 p2.wi], .int .i64 th, .slice aR m cR, .int .i64 g] W fun e w' => e = .returned (.bool (f g)) ∧ Below W.heap.size W w') := fun W g hg hW => by
    rw [hf]
    exact ksure_any p2 hp _ _ _ th ⟨th0, by omega⟩ m R0 R1 (by omega) (fun i hi => by have := hR i hi; omega) (g : Int) (by omega) W (PairsAt.later rO hW) (PairsAt.later rQ hW) (rI.later hW)
  have HUp := Lib.hid hup
  have HPr := Lib.hid hpr
  clear hG0 hE hq hgr hf hup hpr rO rQ rI hR hp m5 th0 th1
  obtain ⟨c0, c1, c2, c3, c4, c5, c6, c7, c8, c9, c10⟩ := jO.c11
  have zO := jO.lt
  go_wp2_with fail
  clear c0 c1 c2 c3 c4 c5 c6 c7 c8 c9 c10 zO
  refine HG.out.mono ?_
  rintro e w6 ⟨rfl, hb⟩
  replace jO := jO.call hb
  replace jB := bwS jB (Nat.le_refl _) hb
  replace jV := bwS jV (Nat.le_refl _) hb
  clear hb HG
  by_cases hk : q ≤ 10000
  · rw [if_pos hk]
    have g1 : ¬ (q : Int) < -1 := by omega
    have g2 : ¬ (10000 : Int) < (q : Int) := by omega
    have g3 : ¬ (q : Int) < 0 := by omega
    go_wp2_with fail
    refine (kwrap_in by0 _).mono ?_
    rintro e w7 ⟨v, rfl, v0, v1, hb⟩
    replace jO := jO.call hb
    replace jB := bwS jB (Nat.le_refl _) hb
    replace jV := bwS jV (Nat.le_refl _) hb
    clear hb g1 g2
    obtain ⟨v, rfl⟩ := Int.eq_ofNat_of_zero_le v0
    by_cases h4 : 4000 < q
    · have h4i : (4000 : Int) < (q : Int) := by omega
      go_wp2_with fail
      refine (awake_any _).mono ?_
      rintro e w9 ⟨rfl, hb⟩
      replace jB := bwS jB (Nat.le_refl _) hb
      go_wp2
      go_ret
      exact ⟨rfl, jB⟩
    · have h4i : ¬ (4000 : Int) < (q : Int) := by omega
      have f1 : f q = true := HPr.out.2.1 (by omega)
      have f2 : f (q + v) = true := HUp.out q (q + v) (by omega) f1
      have HF1 := Lib.hid f1
      have HF2 := Lib.hid f2
      clear f1 f2
      have ew1 : IntKind.i64.wrap ((q : Int) + (v : Int)) = (q : Int) + (v : Int) := IntWalk.i64_in _ (by omega)
      obtain ⟨c0, c1, c2, c3, c4, c5, c6, c7, c8, c9, c10⟩ := jO.c11
      have zO := jO.lt
      go_wp2_with fail
      clear c0 c1 c2 c3 c4 c5 c6 c7 c8 c9 c10 zO
      refine (HSu.out _ q (by omega) jV).mono ?_
      rw [HF1.out]
      rintro e w8 ⟨rfl, hb⟩
      replace jO := jO.call hb
      replace jB := bwS jB (Nat.le_refl _) hb
      replace jV := bwS jV (Nat.le_refl _) hb
      clear hb
      obtain ⟨c0, c1, c2, c3, c4, c5, c6, c7, c8, c9, c10⟩ := jO.c11
      have zO := jO.lt
      go_wp2_with fail
      clear c0 c1 c2 c3 c4 c5 c6 c7 c8 c9 c10 zO
      have hs2 := HSu.out w8 (q + v) (by omega) jV
      rw [HF2.out, show ((q + v : Nat) : Int) = (q : Int) + (v : Int) by omega] at hs2
      refine hs2.mono ?_
      rintro e w10 ⟨rfl, hb⟩
      replace jO := jO.call hb
      replace jB := bwS jB (Nat.le_refl _) hb
      replace jV := bwS jV (Nat.le_refl _) hb
      clear hb hs2
      by_cases hz : q = 0
      · subst hz
        go_wp2_with fail
        refine (awake_any _).mono ?_
        rintro e w9 ⟨rfl, hb⟩
        replace jB := bwS jB (Nat.le_refl _) hb
        go_wp2
        go_ret
        exact ⟨rfl, jB⟩
      · obtain ⟨k, rfl⟩ : ∃ k, q = k + 1 := ⟨q - 1, by omega⟩
        have f3 : f k = false := HPr.out.2.2 k (by omega)
        have HF3 := Lib.hid f3
        clear f3
        have ez : (((k + 1 : Nat) : Int) == 0) = false := by simp; omega
        have ew2 : IntKind.i64.wrap (((k + 1 : Nat) : Int) - 1) = (k : Int) := by rw [show ((k + 1 : Nat) : Int) - 1 = (k : Int) by omega]; exact IntWalk.i64_in _ (by omega)
        obtain ⟨c0, c1, c2, c3, c4, c5, c6, c7, c8, c9, c10⟩ := jO.c11
        have zO := jO.lt
        go_wp2_with fail
        clear c0 c1 c2 c3 c4 c5 c6 c7 c8 c9 c10 zO
        refine (HSu.out _ k (by omega) jV).mono ?_
        rw [HF3.out]
        rintro e w11 ⟨rfl, hb⟩
        replace jB := bwS jB (Nat.le_refl _) hb
        clear hb
        go_wp2_with fail
        refine (awake_any _).mono ?_
        rintro e w9 ⟨rfl, hb⟩
        replace jB := bwS jB (Nat.le_refl _) hb
        go_wp2
        go_ret
        exact ⟨rfl, jB⟩
  · rw [if_neg hk]
    go_wp2_with fail
    refine (kwrap_in by0 _).mono ?_
    rintro e w7 ⟨v, rfl, v0, v1, hb⟩
    replace jO := jO.call hb
    replace jB := bwS jB (Nat.le_refl _) hb
    replace jV := bwS jV (Nat.le_refl _) hb
    clear hb
    obtain ⟨v, rfl⟩ := Int.eq_ofNat_of_zero_le v0
    have f1 : f v = false := HPr.out.2.2 v (by omega)
    have HF1 := Lib.hid f1
    clear f1
    obtain ⟨c0, c1, c2, c3, c4, c5, c6, c7, c8, c9, c10⟩ := jO.c11
    have zO := jO.lt
    go_wp2_with fail
    clear c0 c1 c2 c3 c4 c5 c6 c7 c8 c9 c10 zO
    refine (HSu.out _ v (by omega) jV).mono ?_
    rw [HF1.out]
    rintro e w8 ⟨rfl, hb⟩
    replace jB := bwS jB (Nat.le_refl _) hb
    clear hb
    go_wp2_with fail
    refine (awake_any _).mono ?_
    rintro e w9 ⟨rfl, hb⟩
    replace jB := bwS jB (Nat.le_refl _) hb
    go_wp2
    go_ret
    exact ⟨rfl, jB⟩
end Go.Proofs.Ytfakmggabicdjaa

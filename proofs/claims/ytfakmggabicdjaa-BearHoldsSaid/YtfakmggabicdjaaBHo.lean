/-
  BearHolds says yes.
-/
import Derived.Test.YtfakmggabicdjaaTail
import Derived.Test.YtfakmggabicdjaaRd
import Derived.Test.YtfakmggabicdjaaNarV
import Derived.Test.YtfakmggabicdjaaAwk2
set_option linter.unusedVariables false
set_option linter.unusedSimpArgs false
namespace Go.Proofs.Ytfakmggabicdjaa
open Go.RowKit

theorem nums_later {w w' : World} {a : Option Addr} {n : Nat} (h : NumsAt w a n) (hb : Below w.heap.size w w') : NumsAt w' a n := by
  obtain ⟨h1, h2⟩ := h
  refine ⟨h1, fun h0 => ?_⟩
  obtain ⟨b, o, ha, hlt, hc⟩ := h2 h0
  exact ⟨b, o, ha, Nat.lt_of_lt_of_le hlt hb.size, fun i hi => by
    obtain ⟨z, hz⟩ := hc i hi
    exact ⟨z, cell_later hb hz⟩⟩

set_option maxRecDepth 100000 in
set_option maxHeartbeats 16000000 in
theorem bholds_any (p : Pl) (vS vC vI vK vL : Value) (ni : Nat) (I0 I1 : Nat → Int) (nc : Nat) (C0 C1 : Nat → Int) (n : Nat) (L : Nat → Ld) (a : Option Addr) (len cap : Nat) (w : World)
    (hS : TabAt w vS p.S) (hC : TabAt w vC p.C) (hI : PairsAt w vI ni I0 I1) (hK : PairsAt w vK nc C0 C1) (hL : LoadsAt w vL n L) (hn : NumsAt w a len) :
    Calls Try.prog 4 #[.agg #[.int .i64 p.s0, .int .i64 p.s1, vS, vC, .int .i64 p.ne, .int .i64 p.ed, .int .i64 p.gr, .int .i64 p.lo, .int .i64 p.hi, .int .i64 p.sh, .int .i64 p.wi], vI, vK, vL, .slice a len cap] w fun e w' => e = .returned (.bool true) ∧ Below w.heap.size w w' := by
  obtain ⟨aS, cS, rfl, _, _, _⟩ := id hS
  obtain ⟨aC, cC, rfl, _, _, _⟩ := id hC
  obtain ⟨aI, cI, rfl, hcI, hmI, _⟩ := id hI
  obtain ⟨aK, cK, rfl, hcK, hmK, _⟩ := id hK
  obtain ⟨aL, cL, rfl, hcL, hmL, _⟩ := id hL
  have HPar := Lib.hid (And.intro hS (And.intro hC (And.intro hI (And.intro hK hL))))
  have HNm := Lib.hid hn
  have HBg : Hid (∀ W, Below w.heap.size w W → Calls Try.prog 17 #[.agg #[.int .i64 p.s0, .int .i64 p.s1, (.slice aS p.S.n cS), (.slice aC p.C.n cC), .int .i64 p.ne, .int .i64 p.ed, .int .i64 p.gr, .int .i64 p.lo, .int .i64 p.hi, .int .i64 p.sh, .int .i64 p.wi]] W fun e w' => e = .returned (.bool (bigV p)) ∧ Below W.heap.size W w') := fun W hW => kbig_any p _ _ W (PairsAt.later hS hW) (PairsAt.later hC hW)
  clear hS hC hI hK hL hn
  have jA := Blk.new w #[.int .i64 p.s0, .int .i64 p.s1, (.slice aS p.S.n cS), (.slice aC p.C.n cC), .int .i64 p.ne, .int .i64 p.ed, .int .i64 p.gr, .int .i64 p.lo, .int .i64 p.hi, .int .i64 p.sh, .int .i64 p.wi] 26
  have jB : Below w.heap.size w (w.alloc (.cells #[.int .i64 p.s0, .int .i64 p.s1, (.slice aS p.S.n cS), (.slice aC p.C.n cC), .int .i64 p.ne, .int .i64 p.ed, .int .i64 p.gr, .int .i64 p.lo, .int .i64 p.hi, .int .i64 p.sh, .int .i64 p.wi] 26)) := by (repeat (first | exact Below.refl _ _ | assumption | refine Below.drew ?_ | refine Below.drewN ?_ _ | refine blT ?_ | refine blU ?_))
  go_enter Try.func4, Try.ntmps4
  go_upto_region 1 with fail
  obtain ⟨bA, hbA⟩ : ∃ b, w.heap.size = b := ⟨_, rfl⟩
  rw [hbA] at jA
  (try rw [hbA])
  have zwA : w.heap.size ≤ bA := by omega
  clear hbA
  generalize w.alloc (.cells #[.int .i64 p.s0, .int .i64 p.s1, (.slice aS p.S.n cS), (.slice aC p.C.n cC), .int .i64 p.ne, .int .i64 p.ed, .int .i64 p.gr, .int .i64 p.lo, .int .i64 p.hi, .int .i64 p.sh, .int .i64 p.wi] 26) = V0 at jA jB ⊢
  go_cut [48] (fun s48 wx => ∃ b : Bool, s48 = .bool b ∧ (b = false → n ≤ 60) ∧ Blk wx bA #[.int .i64 p.s0, .int .i64 p.s1, (.slice aS p.S.n cS), (.slice aC p.C.n cC), .int .i64 p.ne, .int .i64 p.ed, .int .i64 p.gr, .int .i64 p.lo, .int .i64 p.hi, .int .i64 p.sh, .int .i64 p.wi] 26 ∧ Below w.heap.size w wx)
  case first =>
    obtain ⟨c0, c1, c2, c3, c4, c5, c6, c7, c8, c9, c10⟩ := jA.c11
    have zA := jA.lt
    go_wp2_with fail
    clear c0 c1 c2 c3 c4 c5 c6 c7 c8 c9 c10 zA
    refine (HBg.out _ jB).mono ?_
    rintro e w1 ⟨rfl, hb⟩
    replace jA := jA.call hb
    replace jB := bwS jB (Nat.le_refl _) hb
    clear hb HBg
    cases bigV p with
    | true =>
      go_wp2_with fail
      go_meet
      exact ⟨true, rfl, fun h => by simp at h, jA, jB⟩
    | false =>
      by_cases h2 : 60 < ni
      · have h2i : (60 : Int) < (ni : Int) := by omega
        by_cases h3 : ni ≤ 1000
        · have h3i : (ni : Int) ≤ 1000 := by omega
          go_wp2_with fail
          go_meet
          exact ⟨true, rfl, fun h => by simp at h, jA, jB⟩
        · have h3i : ¬ (ni : Int) ≤ 1000 := by omega
          by_cases h4 : 60 < nc
          · have h4i : (60 : Int) < (nc : Int) := by omega
            go_wp2_with fail
            go_meet
            exact ⟨true, rfl, fun h => by simp at h, jA, jB⟩
          · have h4i : ¬ (60 : Int) < (nc : Int) := by omega
            by_cases h5 : 60 < n
            · have h5i : (60 : Int) < (n : Int) := by omega
              go_wp2_with fail
              go_meet
              exact ⟨true, rfl, fun h => by simp at h, jA, jB⟩
            · have h5i : ¬ (60 : Int) < (n : Int) := by omega
              go_wp2_with fail
              go_meet
              exact ⟨false, by first | rfl | (simp; omega), fun h => by omega, jA, jB⟩
      · have h2i : ¬ (60 : Int) < (ni : Int) := by omega
        by_cases h4 : 60 < nc
        · have h4i : (60 : Int) < (nc : Int) := by omega
          go_wp2_with fail
          go_meet
          exact ⟨true, rfl, fun h => by simp at h, jA, jB⟩
        · have h4i : ¬ (60 : Int) < (nc : Int) := by omega
          by_cases h5 : 60 < n
          · have h5i : (60 : Int) < (n : Int) := by omega
            go_wp2_with fail
            go_meet
            exact ⟨true, rfl, fun h => by simp at h, jA, jB⟩
          · have h5i : ¬ (60 : Int) < (n : Int) := by omega
            go_wp2_with fail
            go_meet
            exact ⟨false, by first | rfl | (simp; omega), fun h => by omega, jA, jB⟩
  case rest =>
    clear jA jB HBg
    obtain ⟨bb, rfl, hb60, jA, jB⟩ := hcut
    cases bb with
    | true =>
      go_wp2_with fail
      refine (awake_any _).mono ?_
      rintro e w9 ⟨rfl, hb⟩
      replace jB := bwS jB (Nat.le_refl _) hb
      go_wp2
      go_ret
      exact ⟨rfl, jB⟩
    | false =>
      have hn60 := hb60 rfl
      clear hb60
      go_wp2_with fail
      refine (newseed_at a len cap _ (nums_later HNm.out jB)).mono ?_
      rintro e w2 ⟨rfl, hS, hb⟩
      obtain ⟨bs, hbs⟩ : ∃ b, wc.heap.size = b := ⟨_, rfl⟩
      have zAs : bA < bs := by rw [← hbs]; exact jA.lt
      have zwbs : w.heap.size ≤ bs := by omega
      rw [hbs] at hS ⊢
      replace jA := jA.call hb
      replace jB := bwS jB (Nat.le_refl _) hb
      clear hb hbs
      have hb1 := hS.choose_spec.lt
      go_wp2_with fail
      refine (plateof_in bs _ hS).mono ?_
      rintro e w3 ⟨p2, vO, vQ, rfl, hp, rO, rQ, hd⟩
      replace jB := Drawn.below jB hd zwbs
      replace jA := hd.blk jA (by omega)
      replace hS := hd.seed
      replace rO := ownsRow_base (b1 := bs + 1) rO (by omega)
      replace rQ := ownsRow_base (b1 := bs + 1) rQ (by omega)
      clear hd hb1 hp
      obtain ⟨aO, cO, rfl, _, _, _⟩ := pairs_of_row rO
      obtain ⟨aQ, cQ, rfl, _, _, _⟩ := pairs_of_row rQ
      go_wp2_with fail
      refine (bedsof_in 4 (by decide) bs _ hS).mono ?_
      rintro e w4 ⟨mi, J0, J1, vJ, rfl, mi1, mi4, _, rI, hd⟩
      have zz := hS.choose_spec.lt
      replace rI := ownsRow_base (b1 := bs + 1) rI (by omega)
      clear zz
      replace rO := hd.row rO (by omega)
      replace rQ := hd.row rQ (by omega)
      replace jA := hd.blk jA (by omega)
      replace jB := Drawn.below jB hd zwbs
      replace hS := hd.seed
      clear hd
      obtain ⟨bI, dI, rfl, _, _, _⟩ := pairs_of_row rI
      have jO := Blk.new w4 #[.int .i64 p2.s0, .int .i64 p2.s1, (.slice aO p2.S.n cO), (.slice aQ p2.C.n cQ), .int .i64 p2.ne, .int .i64 p2.ed, .int .i64 p2.gr, .int .i64 p2.lo, .int .i64 p2.hi, .int .i64 p2.sh, .int .i64 p2.wi] 26
      go_upto_region 5 with fail
      obtain ⟨bO, hbO⟩ : ∃ b, w4.heap.size = b := ⟨_, rfl⟩
      have zsO : bs < bO := by rw [← hbO]; exact hS.choose_spec.lt
      rw [hbO] at jO
      (try rw [hbO])
      clear hbO
      replace rO := rO.alloc (.cells #[.int .i64 p2.s0, .int .i64 p2.s1, (.slice aO p2.S.n cO), (.slice aQ p2.C.n cQ), .int .i64 p2.ne, .int .i64 p2.ed, .int .i64 p2.gr, .int .i64 p2.lo, .int .i64 p2.hi, .int .i64 p2.sh, .int .i64 p2.wi] 26)
      replace rQ := rQ.alloc (.cells #[.int .i64 p2.s0, .int .i64 p2.s1, (.slice aO p2.S.n cO), (.slice aQ p2.C.n cQ), .int .i64 p2.ne, .int .i64 p2.ed, .int .i64 p2.gr, .int .i64 p2.lo, .int .i64 p2.hi, .int .i64 p2.sh, .int .i64 p2.wi] 26)
      replace rI := rI.alloc (.cells #[.int .i64 p2.s0, .int .i64 p2.s1, (.slice aO p2.S.n cO), (.slice aQ p2.C.n cQ), .int .i64 p2.ne, .int .i64 p2.ed, .int .i64 p2.gr, .int .i64 p2.lo, .int .i64 p2.hi, .int .i64 p2.sh, .int .i64 p2.wi] 26)
      replace jA := jA.alloc (.cells #[.int .i64 p2.s0, .int .i64 p2.s1, (.slice aO p2.S.n cO), (.slice aQ p2.C.n cQ), .int .i64 p2.ne, .int .i64 p2.ed, .int .i64 p2.gr, .int .i64 p2.lo, .int .i64 p2.hi, .int .i64 p2.sh, .int .i64 p2.wi] 26)
      replace hS : SeedAt bs _ := hS.imp fun _ h => h.alloc (.cells #[.int .i64 p2.s0, .int .i64 p2.s1, (.slice aO p2.S.n cO), (.slice aQ p2.C.n cQ), .int .i64 p2.ne, .int .i64 p2.ed, .int .i64 p2.gr, .int .i64 p2.lo, .int .i64 p2.hi, .int .i64 p2.sh, .int .i64 p2.wi] 26)
      replace jB := bwA jB (Nat.le_refl _) (.cells #[.int .i64 p2.s0, .int .i64 p2.s1, (.slice aO p2.S.n cO), (.slice aQ p2.C.n cQ), .int .i64 p2.ne, .int .i64 p2.ed, .int .i64 p2.gr, .int .i64 p2.lo, .int .i64 p2.hi, .int .i64 p2.sh, .int .i64 p2.wi] 26)
      generalize w4.alloc (.cells #[.int .i64 p2.s0, .int .i64 p2.s1, (.slice aO p2.S.n cO), (.slice aQ p2.C.n cQ), .int .i64 p2.ne, .int .i64 p2.ed, .int .i64 p2.gr, .int .i64 p2.lo, .int .i64 p2.hi, .int .i64 p2.sh, .int .i64 p2.wi] 26) = V5 at jO jA rO rQ rI hS jB ⊢
      go_wp2_with fail
      refine (cracksof_in mi 3 (by omega) (by decide) bs _ hS).mono ?_
      rintro e w5 ⟨mc, D0, D1, vD, rfl, mc3, _, rK, hd⟩
      have zz := hS.choose_spec.lt
      replace rK := ownsRow_base (b1 := bs + 1) rK (by omega)
      clear zz
      replace rO := hd.row rO (by omega)
      replace rQ := hd.row rQ (by omega)
      replace rI := hd.row rI (by omega)
      replace jA := hd.blk jA (by omega)
      replace jO := hd.blk jO (by omega)
      replace jB := Drawn.below jB hd zwbs
      replace hS := hd.seed
      clear hd
      obtain ⟨bK, dK, rfl, _, _, _⟩ := pairs_of_row rK
      go_wp2_with fail
      refine (loadsof_in mi 6 (by omega) (by decide) bs _ hS).mono ?_
      rintro e w6 ⟨m, M, vM, rfl, m6, _, rL, hd⟩
      have zz := hS.choose_spec.lt
      replace rL := ownsRow_base (b1 := bs + 1) rL (by omega)
      clear zz
      replace rO := hd.row rO (by omega)
      replace rQ := hd.row rQ (by omega)
      replace rI := hd.row rI (by omega)
      replace rK := hd.row rK (by omega)
      replace jA := hd.blk jA (by omega)
      replace jO := hd.blk jO (by omega)
      replace jB := Drawn.below jB hd zwbs
      clear hd hS
      obtain ⟨bL, dL, rfl, _, _, _⟩ := loads_of_row rL
      have j6 := (((Blk.new w6 #[.int .i64 p.s0, .int .i64 p.s1, (.slice aS p.S.n cS), (.slice aC p.C.n cC), .int .i64 p.ne, .int .i64 p.ed, .int .i64 p.gr, .int .i64 p.lo, .int .i64 p.hi, .int .i64 p.sh, .int .i64 p.wi, .int .i64 p2.s0, .int .i64 p2.s1, (.slice aO p2.S.n cO), (.slice aQ p2.C.n cQ), .int .i64 p2.ne, .int .i64 p2.ed, .int .i64 p2.gr, .int .i64 p2.lo, .int .i64 p2.hi, .int .i64 p2.sh, .int .i64 p2.wi, .int .i64 p2.s0, .int .i64 p2.s1, (.slice aO p2.S.n cO), (.slice aQ p2.C.n cQ), .int .i64 p2.ne, .int .i64 p2.ed, .int .i64 p2.gr, .int .i64 p2.lo, .int .i64 p2.hi, .int .i64 p2.sh, .int .i64 p2.wi] 26).alloc (.cells #[.slice aI ni cI, .slice bI mi dI, .slice aI ni cI] 42)).alloc (.cells #[.slice aK nc cK, .slice bK mc dK, .slice aK nc cK] 42)).alloc (.cells #[.slice aL n cL, .slice bL m dL, .slice aL n cL] 43)
      have j7 := ((Blk.new1 w6 (.cells #[.int .i64 p.s0, .int .i64 p.s1, (.slice aS p.S.n cS), (.slice aC p.C.n cC), .int .i64 p.ne, .int .i64 p.ed, .int .i64 p.gr, .int .i64 p.lo, .int .i64 p.hi, .int .i64 p.sh, .int .i64 p.wi, .int .i64 p2.s0, .int .i64 p2.s1, (.slice aO p2.S.n cO), (.slice aQ p2.C.n cQ), .int .i64 p2.ne, .int .i64 p2.ed, .int .i64 p2.gr, .int .i64 p2.lo, .int .i64 p2.hi, .int .i64 p2.sh, .int .i64 p2.wi, .int .i64 p2.s0, .int .i64 p2.s1, (.slice aO p2.S.n cO), (.slice aQ p2.C.n cQ), .int .i64 p2.ne, .int .i64 p2.ed, .int .i64 p2.gr, .int .i64 p2.lo, .int .i64 p2.hi, .int .i64 p2.sh, .int .i64 p2.wi] 26) #[.slice aI ni cI, .slice bI mi dI, .slice aI ni cI] 42).alloc (.cells #[.slice aK nc cK, .slice bK mc dK, .slice aK nc cK] 42)).alloc (.cells #[.slice aL n cL, .slice bL m dL, .slice aL n cL] 43)
      have j8 := (Blk.new2 w6 (.cells #[.int .i64 p.s0, .int .i64 p.s1, (.slice aS p.S.n cS), (.slice aC p.C.n cC), .int .i64 p.ne, .int .i64 p.ed, .int .i64 p.gr, .int .i64 p.lo, .int .i64 p.hi, .int .i64 p.sh, .int .i64 p.wi, .int .i64 p2.s0, .int .i64 p2.s1, (.slice aO p2.S.n cO), (.slice aQ p2.C.n cQ), .int .i64 p2.ne, .int .i64 p2.ed, .int .i64 p2.gr, .int .i64 p2.lo, .int .i64 p2.hi, .int .i64 p2.sh, .int .i64 p2.wi, .int .i64 p2.s0, .int .i64 p2.s1, (.slice aO p2.S.n cO), (.slice aQ p2.C.n cQ), .int .i64 p2.ne, .int .i64 p2.ed, .int .i64 p2.gr, .int .i64 p2.lo, .int .i64 p2.hi, .int .i64 p2.sh, .int .i64 p2.wi] 26) (.cells #[.slice aI ni cI, .slice bI mi dI, .slice aI ni cI] 42) #[.slice aK nc cK, .slice bK mc dK, .slice aK nc cK] 42).alloc (.cells #[.slice aL n cL, .slice bL m dL, .slice aL n cL] 43)
      have j9 := Blk.new3 w6 (.cells #[.int .i64 p.s0, .int .i64 p.s1, (.slice aS p.S.n cS), (.slice aC p.C.n cC), .int .i64 p.ne, .int .i64 p.ed, .int .i64 p.gr, .int .i64 p.lo, .int .i64 p.hi, .int .i64 p.sh, .int .i64 p.wi, .int .i64 p2.s0, .int .i64 p2.s1, (.slice aO p2.S.n cO), (.slice aQ p2.C.n cQ), .int .i64 p2.ne, .int .i64 p2.ed, .int .i64 p2.gr, .int .i64 p2.lo, .int .i64 p2.hi, .int .i64 p2.sh, .int .i64 p2.wi, .int .i64 p2.s0, .int .i64 p2.s1, (.slice aO p2.S.n cO), (.slice aQ p2.C.n cQ), .int .i64 p2.ne, .int .i64 p2.ed, .int .i64 p2.gr, .int .i64 p2.lo, .int .i64 p2.hi, .int .i64 p2.sh, .int .i64 p2.wi] 26) (.cells #[.slice aI ni cI, .slice bI mi dI, .slice aI ni cI] 42) (.cells #[.slice aK nc cK, .slice bK mc dK, .slice aK nc cK] 42) #[.slice aL n cL, .slice bL m dL, .slice aL n cL] 43
      obtain ⟨c0, c1, c2, c3, c4, c5, c6, c7, c8, c9, c10⟩ := jA.c11
      obtain ⟨d0, d1, d2, d3, d4, d5, d6, d7, d8, d9, d10⟩ := jO.c11
      have zA := jA.lt
      have zO := jO.lt
      go_upto_region 7 with fail
      clear c0 c1 c2 c3 c4 c5 c6 c7 c8 c9 c10 d0 d1 d2 d3 d4 d5 d6 d7 d8 d9 d10 zA zO jA jO
      have hW : Below w6.heap.size w6 ((((w6.alloc (.cells #[.int .i64 p.s0, .int .i64 p.s1, (.slice aS p.S.n cS), (.slice aC p.C.n cC), .int .i64 p.ne, .int .i64 p.ed, .int .i64 p.gr, .int .i64 p.lo, .int .i64 p.hi, .int .i64 p.sh, .int .i64 p.wi, .int .i64 p2.s0, .int .i64 p2.s1, (.slice aO p2.S.n cO), (.slice aQ p2.C.n cQ), .int .i64 p2.ne, .int .i64 p2.ed, .int .i64 p2.gr, .int .i64 p2.lo, .int .i64 p2.hi, .int .i64 p2.sh, .int .i64 p2.wi, .int .i64 p2.s0, .int .i64 p2.s1, (.slice aO p2.S.n cO), (.slice aQ p2.C.n cQ), .int .i64 p2.ne, .int .i64 p2.ed, .int .i64 p2.gr, .int .i64 p2.lo, .int .i64 p2.hi, .int .i64 p2.sh, .int .i64 p2.wi] 26)).alloc (.cells #[.slice aI ni cI, .slice bI mi dI, .slice aI ni cI] 42)).alloc (.cells #[.slice aK nc cK, .slice bK mc dK, .slice aK nc cK] 42)).alloc (.cells #[.slice aL n cL, .slice bL m dL, .slice aL n cL] 43)) := by (repeat (first | exact Below.refl _ _ | assumption | refine Below.drew ?_ | refine Below.drewN ?_ _ | refine blT ?_ | refine blU ?_))
      replace jB := bwS jB (Nat.le_refl _) hW
      replace rO := PairsAt.later (pairs_of_row rO) hW
      replace rQ := PairsAt.later (pairs_of_row rQ) hW
      replace rI := (pairs_of_row rI).later hW
      replace rK := (pairs_of_row rK).later hW
      replace rL := (loads_of_row rL).later hW
      obtain ⟨b6, hb6⟩ : ∃ b, w6.heap.size = b := ⟨_, rfl⟩
      obtain ⟨b7, hb7⟩ : ∃ b, b6 + 1 = b := ⟨_, rfl⟩
      obtain ⟨b8, hb8⟩ : ∃ b, b7 + 1 = b := ⟨_, rfl⟩
      obtain ⟨b9, hb9⟩ : ∃ b, b8 + 1 = b := ⟨_, rfl⟩
      rw [hb6] at j6 j7 j8 j9
      (try rw [hb6])
      rw [hb7] at j7 j8 j9
      (try rw [hb7])
      rw [hb8] at j8 j9
      (try rw [hb8])
      rw [hb9] at j9
      (try rw [hb9])
      clear hb6 hb7 hb8 hb9 hW
      generalize (((w6.alloc (.cells #[.int .i64 p.s0, .int .i64 p.s1, (.slice aS p.S.n cS), (.slice aC p.C.n cC), .int .i64 p.ne, .int .i64 p.ed, .int .i64 p.gr, .int .i64 p.lo, .int .i64 p.hi, .int .i64 p.sh, .int .i64 p.wi, .int .i64 p2.s0, .int .i64 p2.s1, (.slice aO p2.S.n cO), (.slice aQ p2.C.n cQ), .int .i64 p2.ne, .int .i64 p2.ed, .int .i64 p2.gr, .int .i64 p2.lo, .int .i64 p2.hi, .int .i64 p2.sh, .int .i64 p2.wi, .int .i64 p2.s0, .int .i64 p2.s1, (.slice aO p2.S.n cO), (.slice aQ p2.C.n cQ), .int .i64 p2.ne, .int .i64 p2.ed, .int .i64 p2.gr, .int .i64 p2.lo, .int .i64 p2.hi, .int .i64 p2.sh, .int .i64 p2.wi] 26)).alloc (.cells #[.slice aI ni cI, .slice bI mi dI, .slice aI ni cI] 42)).alloc (.cells #[.slice aK nc cK, .slice bK mc dK, .slice aK nc cK] 42)).alloc (.cells #[.slice aL n cL, .slice bL m dL, .slice aL n cL] 43) = V at j6 j7 j8 j9 jB rO rQ rI rK rL ⊢
      obtain ⟨qS, qC, qI, qK, qL⟩ := HPar.out
      have HB := Lib.hid jB
      have HRd : Hid (∀ k, k < 3 → ∃ (x : Pl) (uS uC uI uK uL : Value) (m : Nat) (M : Nat → Ld) (e : Int) (hN : Nat) (X : Nat → Int), Rd V b6 b7 b8 b9 k x uS uC uI uK uL m M e hN X) := fun k hk => by
        obtain rfl | rfl | rfl : k = 0 ∨ k = 1 ∨ k = 2 := by omega
        · exact ⟨p, _, _, _, _, _, n, L, _, _, _, Rd.mk2 ni I0 I1 nc C0 C1 ⟨j6.cell (0 * 11) rfl, j6.cell (0 * 11 + 1) rfl, j6.cell (0 * 11 + 2) rfl, j6.cell (0 * 11 + 3) rfl, j6.cell (0 * 11 + 4) rfl, j6.cell (0 * 11 + 5) rfl, j6.cell (0 * 11 + 6) rfl, j6.cell (0 * 11 + 7) rfl, j6.cell (0 * 11 + 8) rfl, j6.cell (0 * 11 + 9) rfl, j6.cell (0 * 11 + 10) rfl⟩ (j7.cell 0 rfl) (j8.cell 0 rfl) (j9.cell 0 rfl) hn60 (PairsAt.later qS jB) (PairsAt.later qC jB) (qI.later jB) (qK.later jB) (qL.later jB)⟩
        · exact ⟨p2, _, _, _, _, _, m, M, _, _, _, Rd.mk2 mi J0 J1 mc D0 D1 ⟨j6.cell (1 * 11) rfl, j6.cell (1 * 11 + 1) rfl, j6.cell (1 * 11 + 2) rfl, j6.cell (1 * 11 + 3) rfl, j6.cell (1 * 11 + 4) rfl, j6.cell (1 * 11 + 5) rfl, j6.cell (1 * 11 + 6) rfl, j6.cell (1 * 11 + 7) rfl, j6.cell (1 * 11 + 8) rfl, j6.cell (1 * 11 + 9) rfl, j6.cell (1 * 11 + 10) rfl⟩ (j7.cell 1 rfl) (j8.cell 1 rfl) (j9.cell 1 rfl) (by omega) rO rQ rI rK rL⟩
        · exact ⟨p2, _, _, _, _, _, n, L, _, _, _, Rd.mk2 ni I0 I1 nc C0 C1 ⟨j6.cell (2 * 11) rfl, j6.cell (2 * 11 + 1) rfl, j6.cell (2 * 11 + 2) rfl, j6.cell (2 * 11 + 3) rfl, j6.cell (2 * 11 + 4) rfl, j6.cell (2 * 11 + 5) rfl, j6.cell (2 * 11 + 6) rfl, j6.cell (2 * 11 + 7) rfl, j6.cell (2 * 11 + 8) rfl, j6.cell (2 * 11 + 9) rfl, j6.cell (2 * 11 + 10) rfl⟩ (j7.cell 2 rfl) (j8.cell 2 rfl) (j9.cell 2 rfl) hn60 rO rQ (qI.later jB) (qK.later jB) (qL.later jB)⟩
      clear j6 j7 j8 j9 jB rO rQ rI rK rL qS qC qI qK qL HPar HNm mi1 mi4 mc3 m6 hn60 zAs zwbs zsO zwA
      go_wp2_with fail
      go_loopw [20] (fun i wr => ∃ k : Nat, k ≤ 3 ∧ i = .int .i64 k ∧ Below V.heap.size V wr) (fun i _ => 3 - (intOf i).toNat)
      case atStart => exact ⟨0, by omega, rfl, Below.refl _ _⟩
      case round =>
        obtain ⟨k, hk, rfl, hB⟩ := hrel
        by_cases hlt2 : k < 3
        · obtain ⟨x, uS, uC, uI, uK, uL, m2, N, e2, hN, X, hR⟩ := HRd.out k hlt2
          have HR := Lib.hid hR
          have hk3 : (k : Int) < 3 := by omega
          have hm60 := hR.m60
          obtain ⟨aG, cG, rfl, hcG, hmG, hG3⟩ := hR.L
          have HG3 := Lib.hid hG3
          have hLd : LoadsAt (wr.alloc (.cells #[] 53)) (.slice aG m2 cG) m2 N := (hR.L.later hB).later (show Below wr.heap.size wr (wr.alloc (.cells #[] 53)) by (repeat (first | exact Below.refl _ _ | assumption | refine Below.drew ?_ | refine Below.drewN ?_ _ | refine blT ?_ | refine blU ?_)))
          have jE : (wr.alloc (.cells #[] 53)).ownsRow wr.heap.size 53 4 (.slice (some ⟨wr.heap.size, 0, none⟩) 0 0) 0 [] :=
            ⟨rfl, .inr ⟨wr.heap.size, 0, #[], rfl, Nat.le_refl _, World.alloc_heap_new wr _, Nat.le_refl _, Nat.zero_le _, rfl, rfl⟩⟩
          have g9 := cell_later hB hR.l
          have z9 := World.block_lt_of_cell? _ _ g9
          have zV := hB.size
          clear hG3 hR HRd
          go_upto_region 11 with (at_builtin; refine append_loads rfl _ _ rfl rfl wr.heap.size _ 0 [] rfl jE _ m2 N rfl hLd (by omega) (by simp) ?_; intro own w5 hown hgrow; simp only [Nat.zero_add, List.nil_append] at hown)
          have hg2 : (wr.alloc (.cells #[] 53)).grownBy w5 (some wr.heap.size) := hgrow
          have hB5 := below_grown (bwA hB (Nat.le_refl _) (.cells #[] 53)) hg2 (fun q e => by simp only [Option.some.injEq] at e; omega) (by simp; omega)
          clear hgrow hg2 jE hLd g9 z9 zV hB
          obtain ⟨aN, cN, rfl, _, _, _⟩ := loads_of_row hown
          have HG := Lib.hid (loads_of_row hown)
          clear hown
          have hW5 := Below.refl w5.heap.size w5
          refine wp_region_held_drew (S := (fun v => Below V.heap.size V v ∧ Below w5.heap.size w5 v)) (by kernel_rfl) ?_ (fun hH => ?_)
          · (try dsimp only); (exact ⟨hB5.drew, hW5.drew⟩)
          refine tkY 0 (some 93) ?_ ?_ ?_
          rotate_left
          · intro w _; go_simp; (try with_reducible rfl)
          (try simp only [cq])
          refine tkY 1 (some 94) ?_ ?_ ?_
          rotate_left
          · intro w _; go_simp; (try with_reducible rfl)
          (try simp only [cq])
          refine tkY 2 (some 95) ?_ ?_ ?_
          rotate_left
          · intro w hS0; (try dsimp only at hS0); have q9 := hS0.1; have c0 := cell_later q9 HR.out.c.1; have c1 := cell_later q9 HR.out.c.2.1; have c2 := cell_later q9 HR.out.c.2.2.1; have c3 := cell_later q9 HR.out.c.2.2.2.1; have c4 := cell_later q9 HR.out.c.2.2.2.2.1; have c5 := cell_later q9 HR.out.c.2.2.2.2.2.1; have c6 := cell_later q9 HR.out.c.2.2.2.2.2.2.1; have c7 := cell_later q9 HR.out.c.2.2.2.2.2.2.2.1; have c8 := cell_later q9 HR.out.c.2.2.2.2.2.2.2.2.1; have c9 := cell_later q9 HR.out.c.2.2.2.2.2.2.2.2.2.1; have c10 := cell_later q9 HR.out.c.2.2.2.2.2.2.2.2.2.2; have i0 := cell_later q9 HR.out.i; have j0 := cell_later q9 HR.out.j; have y0 := World.block_lt_of_cell? _ _ c0; have y1 := World.block_lt_of_cell? _ _ i0; have y2 := World.block_lt_of_cell? _ _ j0;go_simp; (try with_reducible rfl)
          (try simp only [cq])
          refine tkY 3 (some 96) ?_ ?_ ?_
          rotate_left
          · intro w hS0; (try dsimp only at hS0); have q9 := hS0.1; have c0 := cell_later q9 HR.out.c.1; have c1 := cell_later q9 HR.out.c.2.1; have c2 := cell_later q9 HR.out.c.2.2.1; have c3 := cell_later q9 HR.out.c.2.2.2.1; have c4 := cell_later q9 HR.out.c.2.2.2.2.1; have c5 := cell_later q9 HR.out.c.2.2.2.2.2.1; have c6 := cell_later q9 HR.out.c.2.2.2.2.2.2.1; have c7 := cell_later q9 HR.out.c.2.2.2.2.2.2.2.1; have c8 := cell_later q9 HR.out.c.2.2.2.2.2.2.2.2.1; have c9 := cell_later q9 HR.out.c.2.2.2.2.2.2.2.2.2.1; have c10 := cell_later q9 HR.out.c.2.2.2.2.2.2.2.2.2.2; have i0 := cell_later q9 HR.out.i; have j0 := cell_later q9 HR.out.j; have y0 := World.block_lt_of_cell? _ _ c0; have y1 := World.block_lt_of_cell? _ _ i0; have y2 := World.block_lt_of_cell? _ _ j0;go_simp; (try with_reducible rfl)
          (try simp only [cq])
          refine tkY 4 (some 97) ?_ ?_ ?_
          rotate_left
          · intro w _; go_simp; (try with_reducible rfl)
          (try simp only [cq])
          refine tkY 5 (some 98) ?_ ?_ ?_
          rotate_left
          · intro w _; go_simp; (try with_reducible rfl)
          (try simp only [cq])
          refine tkY 6 (some 99) ?_ ?_ ?_
          rotate_left
          · intro w hS0; (try dsimp only at hS0); have q9 := hS0.1; have c0 := cell_later q9 HR.out.c.1; have c1 := cell_later q9 HR.out.c.2.1; have c2 := cell_later q9 HR.out.c.2.2.1; have c3 := cell_later q9 HR.out.c.2.2.2.1; have c4 := cell_later q9 HR.out.c.2.2.2.2.1; have c5 := cell_later q9 HR.out.c.2.2.2.2.2.1; have c6 := cell_later q9 HR.out.c.2.2.2.2.2.2.1; have c7 := cell_later q9 HR.out.c.2.2.2.2.2.2.2.1; have c8 := cell_later q9 HR.out.c.2.2.2.2.2.2.2.2.1; have c9 := cell_later q9 HR.out.c.2.2.2.2.2.2.2.2.2.1; have c10 := cell_later q9 HR.out.c.2.2.2.2.2.2.2.2.2.2; have i0 := cell_later q9 HR.out.i; have j0 := cell_later q9 HR.out.j; have y0 := World.block_lt_of_cell? _ _ c0; have y1 := World.block_lt_of_cell? _ _ i0; have y2 := World.block_lt_of_cell? _ _ j0;go_simp; (try with_reducible rfl)
          (try simp only [cq])
          refine tkY 7 (some 100) ?_ ?_ ?_
          rotate_left
          · intro w hS0; (try dsimp only at hS0); have q9 := hS0.1; have c0 := cell_later q9 HR.out.c.1; have c1 := cell_later q9 HR.out.c.2.1; have c2 := cell_later q9 HR.out.c.2.2.1; have c3 := cell_later q9 HR.out.c.2.2.2.1; have c4 := cell_later q9 HR.out.c.2.2.2.2.1; have c5 := cell_later q9 HR.out.c.2.2.2.2.2.1; have c6 := cell_later q9 HR.out.c.2.2.2.2.2.2.1; have c7 := cell_later q9 HR.out.c.2.2.2.2.2.2.2.1; have c8 := cell_later q9 HR.out.c.2.2.2.2.2.2.2.2.1; have c9 := cell_later q9 HR.out.c.2.2.2.2.2.2.2.2.2.1; have c10 := cell_later q9 HR.out.c.2.2.2.2.2.2.2.2.2.2; have i0 := cell_later q9 HR.out.i; have j0 := cell_later q9 HR.out.j; have y0 := World.block_lt_of_cell? _ _ c0; have y1 := World.block_lt_of_cell? _ _ i0; have y2 := World.block_lt_of_cell? _ _ j0;go_simp; (try with_reducible rfl)
          (try simp only [cq])
          refine tkY 8 (some 101) ?_ ?_ ?_
          rotate_left
          · intro w _; go_simp; (try with_reducible rfl)
          (try simp only [cq])
          refine tkY 9 (some 102) ?_ ?_ ?_
          rotate_left
          · intro w _; go_simp; (try with_reducible rfl)
          (try simp only [cq])
          refine tkY 10 (some 103) ?_ ?_ ?_
          rotate_left
          · intro w hS0; (try dsimp only at hS0); have q9 := hS0.1; have c0 := cell_later q9 HR.out.c.1; have c1 := cell_later q9 HR.out.c.2.1; have c2 := cell_later q9 HR.out.c.2.2.1; have c3 := cell_later q9 HR.out.c.2.2.2.1; have c4 := cell_later q9 HR.out.c.2.2.2.2.1; have c5 := cell_later q9 HR.out.c.2.2.2.2.2.1; have c6 := cell_later q9 HR.out.c.2.2.2.2.2.2.1; have c7 := cell_later q9 HR.out.c.2.2.2.2.2.2.2.1; have c8 := cell_later q9 HR.out.c.2.2.2.2.2.2.2.2.1; have c9 := cell_later q9 HR.out.c.2.2.2.2.2.2.2.2.2.1; have c10 := cell_later q9 HR.out.c.2.2.2.2.2.2.2.2.2.2; have i0 := cell_later q9 HR.out.i; have j0 := cell_later q9 HR.out.j; have y0 := World.block_lt_of_cell? _ _ c0; have y1 := World.block_lt_of_cell? _ _ i0; have y2 := World.block_lt_of_cell? _ _ j0;go_simp; (try with_reducible rfl)
          (try simp only [cq])
          refine tkY 11 (some 104) ?_ ?_ ?_
          rotate_left
          · intro w hS0; (try dsimp only at hS0); have q9 := hS0.1; have c0 := cell_later q9 HR.out.c.1; have c1 := cell_later q9 HR.out.c.2.1; have c2 := cell_later q9 HR.out.c.2.2.1; have c3 := cell_later q9 HR.out.c.2.2.2.1; have c4 := cell_later q9 HR.out.c.2.2.2.2.1; have c5 := cell_later q9 HR.out.c.2.2.2.2.2.1; have c6 := cell_later q9 HR.out.c.2.2.2.2.2.2.1; have c7 := cell_later q9 HR.out.c.2.2.2.2.2.2.2.1; have c8 := cell_later q9 HR.out.c.2.2.2.2.2.2.2.2.1; have c9 := cell_later q9 HR.out.c.2.2.2.2.2.2.2.2.2.1; have c10 := cell_later q9 HR.out.c.2.2.2.2.2.2.2.2.2.2; have i0 := cell_later q9 HR.out.i; have j0 := cell_later q9 HR.out.j; have y0 := World.block_lt_of_cell? _ _ c0; have y1 := World.block_lt_of_cell? _ _ i0; have y2 := World.block_lt_of_cell? _ _ j0;go_simp; (try with_reducible rfl)
          (try simp only [cq])
          refine tkY 12 (some 105) ?_ ?_ ?_
          rotate_left
          · intro w _; go_simp; (try with_reducible rfl)
          (try simp only [cq])
          refine wpAnyH_ready (rs := [13]) (by kernel_rfl) (by simp) ?_
          refine arc1 (some 106) fun K hK => ?_
          go_simp
          (refine (HR.out.one _ _ hH.1 (HG.out.later hH.2)).mono ?_; rintro e w' ⟨u, rfl, ru, hb⟩)
          refine hK.out _ _ ?_ ?_
          · (exact ⟨bwS hH.1 (Nat.le_refl _) hb, bwS hH.2 (Nat.le_refl _) hb⟩)
          (try clear hH); (try clear hb)
          intro hH
          clear hK K
          (try simp only [cq])
          refine tkY 14 (some 92) ?_ ?_ ?_
          rotate_left
          · intro w _; go_simp; (try with_reducible rfl)
          (try simp only [cq])
          refine tkY 15 (some 107) ?_ ?_ ?_
          rotate_left
          · intro w _; go_simp; (try with_reducible rfl)
          (try simp only [cq])
          refine tkY 16 (some 108) ?_ ?_ ?_
          rotate_left
          · intro w _; go_simp; (try with_reducible rfl)
          (try simp only [cq])
          refine tkY 17 (some 22) ?_ ?_ ?_
          rotate_left
          · intro w _; go_simp; (try with_reducible rfl)
          (try simp only [cq])
          refine tkY 18 (some 23) ?_ ?_ ?_
          rotate_left
          · intro w _; go_simp; (try with_reducible rfl)
          (try simp only [cq])
          refine wpAnyH_done (by kernel_rfl) ?_ _
          (try dsimp only [Act.put])
          (try simp only [cq])
          clear hB5 hW5
          obtain ⟨hB5, hW5⟩ := hH
          go_upto_region 12 with fail
          refine wp_region_held_drew (S := (fun v => Below V.heap.size V v ∧ Below w5.heap.size w5 v ∧ IntsAt v u hN X)) (by kernel_rfl) ?_ (fun hH => ?_)
          · (try dsimp only); (exact ⟨hB5.drew, hW5.drew, ru⟩)
          refine tkY 0 (some 110) ?_ ?_ ?_
          rotate_left
          · intro w _; go_simp; (try with_reducible rfl)
          (try simp only [cq])
          refine tkY 1 (some 111) ?_ ?_ ?_
          rotate_left
          · intro w _; go_simp; (try with_reducible rfl)
          (try simp only [cq])
          refine tkY 2 (some 112) ?_ ?_ ?_
          rotate_left
          · intro w hS0; (try dsimp only at hS0); have q9 := hS0.1; have c0 := cell_later q9 HR.out.c.1; have c1 := cell_later q9 HR.out.c.2.1; have c2 := cell_later q9 HR.out.c.2.2.1; have c3 := cell_later q9 HR.out.c.2.2.2.1; have c4 := cell_later q9 HR.out.c.2.2.2.2.1; have c5 := cell_later q9 HR.out.c.2.2.2.2.2.1; have c6 := cell_later q9 HR.out.c.2.2.2.2.2.2.1; have c7 := cell_later q9 HR.out.c.2.2.2.2.2.2.2.1; have c8 := cell_later q9 HR.out.c.2.2.2.2.2.2.2.2.1; have c9 := cell_later q9 HR.out.c.2.2.2.2.2.2.2.2.2.1; have c10 := cell_later q9 HR.out.c.2.2.2.2.2.2.2.2.2.2; have i0 := cell_later q9 HR.out.i; have j0 := cell_later q9 HR.out.j; have l0 := cell_later q9 HR.out.l; have y0 := World.block_lt_of_cell? _ _ c0; have y1 := World.block_lt_of_cell? _ _ i0; have y2 := World.block_lt_of_cell? _ _ j0; have y3 := World.block_lt_of_cell? _ _ l0;go_simp; (try with_reducible rfl)
          (try simp only [cq])
          refine tkY 3 (some 113) ?_ ?_ ?_
          rotate_left
          · intro w hS0; (try dsimp only at hS0); have q9 := hS0.1; have c0 := cell_later q9 HR.out.c.1; have c1 := cell_later q9 HR.out.c.2.1; have c2 := cell_later q9 HR.out.c.2.2.1; have c3 := cell_later q9 HR.out.c.2.2.2.1; have c4 := cell_later q9 HR.out.c.2.2.2.2.1; have c5 := cell_later q9 HR.out.c.2.2.2.2.2.1; have c6 := cell_later q9 HR.out.c.2.2.2.2.2.2.1; have c7 := cell_later q9 HR.out.c.2.2.2.2.2.2.2.1; have c8 := cell_later q9 HR.out.c.2.2.2.2.2.2.2.2.1; have c9 := cell_later q9 HR.out.c.2.2.2.2.2.2.2.2.2.1; have c10 := cell_later q9 HR.out.c.2.2.2.2.2.2.2.2.2.2; have i0 := cell_later q9 HR.out.i; have j0 := cell_later q9 HR.out.j; have l0 := cell_later q9 HR.out.l; have y0 := World.block_lt_of_cell? _ _ c0; have y1 := World.block_lt_of_cell? _ _ i0; have y2 := World.block_lt_of_cell? _ _ j0; have y3 := World.block_lt_of_cell? _ _ l0;go_simp; (try with_reducible rfl)
          (try simp only [cq])
          refine tkY 4 (some 114) ?_ ?_ ?_
          rotate_left
          · intro w _; go_simp; (try with_reducible rfl)
          (try simp only [cq])
          refine tkY 5 (some 115) ?_ ?_ ?_
          rotate_left
          · intro w _; go_simp; (try with_reducible rfl)
          (try simp only [cq])
          refine tkY 6 (some 116) ?_ ?_ ?_
          rotate_left
          · intro w hS0; (try dsimp only at hS0); have q9 := hS0.1; have c0 := cell_later q9 HR.out.c.1; have c1 := cell_later q9 HR.out.c.2.1; have c2 := cell_later q9 HR.out.c.2.2.1; have c3 := cell_later q9 HR.out.c.2.2.2.1; have c4 := cell_later q9 HR.out.c.2.2.2.2.1; have c5 := cell_later q9 HR.out.c.2.2.2.2.2.1; have c6 := cell_later q9 HR.out.c.2.2.2.2.2.2.1; have c7 := cell_later q9 HR.out.c.2.2.2.2.2.2.2.1; have c8 := cell_later q9 HR.out.c.2.2.2.2.2.2.2.2.1; have c9 := cell_later q9 HR.out.c.2.2.2.2.2.2.2.2.2.1; have c10 := cell_later q9 HR.out.c.2.2.2.2.2.2.2.2.2.2; have i0 := cell_later q9 HR.out.i; have j0 := cell_later q9 HR.out.j; have l0 := cell_later q9 HR.out.l; have y0 := World.block_lt_of_cell? _ _ c0; have y1 := World.block_lt_of_cell? _ _ i0; have y2 := World.block_lt_of_cell? _ _ j0; have y3 := World.block_lt_of_cell? _ _ l0;go_simp; (try with_reducible rfl)
          (try simp only [cq])
          refine tkY 7 (some 117) ?_ ?_ ?_
          rotate_left
          · intro w hS0; (try dsimp only at hS0); have q9 := hS0.1; have c0 := cell_later q9 HR.out.c.1; have c1 := cell_later q9 HR.out.c.2.1; have c2 := cell_later q9 HR.out.c.2.2.1; have c3 := cell_later q9 HR.out.c.2.2.2.1; have c4 := cell_later q9 HR.out.c.2.2.2.2.1; have c5 := cell_later q9 HR.out.c.2.2.2.2.2.1; have c6 := cell_later q9 HR.out.c.2.2.2.2.2.2.1; have c7 := cell_later q9 HR.out.c.2.2.2.2.2.2.2.1; have c8 := cell_later q9 HR.out.c.2.2.2.2.2.2.2.2.1; have c9 := cell_later q9 HR.out.c.2.2.2.2.2.2.2.2.2.1; have c10 := cell_later q9 HR.out.c.2.2.2.2.2.2.2.2.2.2; have i0 := cell_later q9 HR.out.i; have j0 := cell_later q9 HR.out.j; have l0 := cell_later q9 HR.out.l; have y0 := World.block_lt_of_cell? _ _ c0; have y1 := World.block_lt_of_cell? _ _ i0; have y2 := World.block_lt_of_cell? _ _ j0; have y3 := World.block_lt_of_cell? _ _ l0;go_simp; (try with_reducible rfl)
          (try simp only [cq])
          refine tkY 8 (some 118) ?_ ?_ ?_
          rotate_left
          · intro w _; go_simp; (try with_reducible rfl)
          (try simp only [cq])
          refine tkY 9 (some 119) ?_ ?_ ?_
          rotate_left
          · intro w _; go_simp; (try with_reducible rfl)
          (try simp only [cq])
          refine tkY 10 (some 120) ?_ ?_ ?_
          rotate_left
          · intro w hS0; (try dsimp only at hS0); have q9 := hS0.1; have c0 := cell_later q9 HR.out.c.1; have c1 := cell_later q9 HR.out.c.2.1; have c2 := cell_later q9 HR.out.c.2.2.1; have c3 := cell_later q9 HR.out.c.2.2.2.1; have c4 := cell_later q9 HR.out.c.2.2.2.2.1; have c5 := cell_later q9 HR.out.c.2.2.2.2.2.1; have c6 := cell_later q9 HR.out.c.2.2.2.2.2.2.1; have c7 := cell_later q9 HR.out.c.2.2.2.2.2.2.2.1; have c8 := cell_later q9 HR.out.c.2.2.2.2.2.2.2.2.1; have c9 := cell_later q9 HR.out.c.2.2.2.2.2.2.2.2.2.1; have c10 := cell_later q9 HR.out.c.2.2.2.2.2.2.2.2.2.2; have i0 := cell_later q9 HR.out.i; have j0 := cell_later q9 HR.out.j; have l0 := cell_later q9 HR.out.l; have y0 := World.block_lt_of_cell? _ _ c0; have y1 := World.block_lt_of_cell? _ _ i0; have y2 := World.block_lt_of_cell? _ _ j0; have y3 := World.block_lt_of_cell? _ _ l0;go_simp; (try with_reducible rfl)
          (try simp only [cq])
          refine tkY 11 (some 121) ?_ ?_ ?_
          rotate_left
          · intro w hS0; (try dsimp only at hS0); have q9 := hS0.1; have c0 := cell_later q9 HR.out.c.1; have c1 := cell_later q9 HR.out.c.2.1; have c2 := cell_later q9 HR.out.c.2.2.1; have c3 := cell_later q9 HR.out.c.2.2.2.1; have c4 := cell_later q9 HR.out.c.2.2.2.2.1; have c5 := cell_later q9 HR.out.c.2.2.2.2.2.1; have c6 := cell_later q9 HR.out.c.2.2.2.2.2.2.1; have c7 := cell_later q9 HR.out.c.2.2.2.2.2.2.2.1; have c8 := cell_later q9 HR.out.c.2.2.2.2.2.2.2.2.1; have c9 := cell_later q9 HR.out.c.2.2.2.2.2.2.2.2.2.1; have c10 := cell_later q9 HR.out.c.2.2.2.2.2.2.2.2.2.2; have i0 := cell_later q9 HR.out.i; have j0 := cell_later q9 HR.out.j; have l0 := cell_later q9 HR.out.l; have y0 := World.block_lt_of_cell? _ _ c0; have y1 := World.block_lt_of_cell? _ _ i0; have y2 := World.block_lt_of_cell? _ _ j0; have y3 := World.block_lt_of_cell? _ _ l0;go_simp; (try with_reducible rfl)
          (try simp only [cq])
          refine tkY 12 (some 122) ?_ ?_ ?_
          rotate_left
          · intro w _; go_simp; (try with_reducible rfl)
          (try simp only [cq])
          refine tkY 13 (some 123) ?_ ?_ ?_
          rotate_left
          · intro w _; go_simp; (try with_reducible rfl)
          (try simp only [cq])
          refine tkY 14 (some 124) ?_ ?_ ?_
          rotate_left
          · intro w hS0; (try dsimp only at hS0); have q9 := hS0.1; have c0 := cell_later q9 HR.out.c.1; have c1 := cell_later q9 HR.out.c.2.1; have c2 := cell_later q9 HR.out.c.2.2.1; have c3 := cell_later q9 HR.out.c.2.2.2.1; have c4 := cell_later q9 HR.out.c.2.2.2.2.1; have c5 := cell_later q9 HR.out.c.2.2.2.2.2.1; have c6 := cell_later q9 HR.out.c.2.2.2.2.2.2.1; have c7 := cell_later q9 HR.out.c.2.2.2.2.2.2.2.1; have c8 := cell_later q9 HR.out.c.2.2.2.2.2.2.2.2.1; have c9 := cell_later q9 HR.out.c.2.2.2.2.2.2.2.2.2.1; have c10 := cell_later q9 HR.out.c.2.2.2.2.2.2.2.2.2.2; have i0 := cell_later q9 HR.out.i; have j0 := cell_later q9 HR.out.j; have l0 := cell_later q9 HR.out.l; have y0 := World.block_lt_of_cell? _ _ c0; have y1 := World.block_lt_of_cell? _ _ i0; have y2 := World.block_lt_of_cell? _ _ j0; have y3 := World.block_lt_of_cell? _ _ l0;go_simp; (try with_reducible rfl)
          (try simp only [cq])
          refine tkY 15 (some 125) ?_ ?_ ?_
          rotate_left
          · intro w hS0; (try dsimp only at hS0); have q9 := hS0.1; have c0 := cell_later q9 HR.out.c.1; have c1 := cell_later q9 HR.out.c.2.1; have c2 := cell_later q9 HR.out.c.2.2.1; have c3 := cell_later q9 HR.out.c.2.2.2.1; have c4 := cell_later q9 HR.out.c.2.2.2.2.1; have c5 := cell_later q9 HR.out.c.2.2.2.2.2.1; have c6 := cell_later q9 HR.out.c.2.2.2.2.2.2.1; have c7 := cell_later q9 HR.out.c.2.2.2.2.2.2.2.1; have c8 := cell_later q9 HR.out.c.2.2.2.2.2.2.2.2.1; have c9 := cell_later q9 HR.out.c.2.2.2.2.2.2.2.2.2.1; have c10 := cell_later q9 HR.out.c.2.2.2.2.2.2.2.2.2.2; have i0 := cell_later q9 HR.out.i; have j0 := cell_later q9 HR.out.j; have l0 := cell_later q9 HR.out.l; have y0 := World.block_lt_of_cell? _ _ c0; have y1 := World.block_lt_of_cell? _ _ i0; have y2 := World.block_lt_of_cell? _ _ j0; have y3 := World.block_lt_of_cell? _ _ l0;go_simp; (try with_reducible rfl)
          (try simp only [cq])
          refine wpAnyH_ready (rs := [16]) (by kernel_rfl) (by simp) ?_
          refine arc1 (some 126) fun K hK => ?_
          go_simp
          (refine (HR.out.two _ _ hH.1 (HR.out.L.later hH.1)).mono ?_; rintro e w' ⟨u', rfl, ru', hb⟩)
          refine hK.out _ _ ?_ ?_
          · (exact ⟨bwS hH.1 (Nat.le_refl _) hb, bwS hH.2.1 (Nat.le_refl _) hb, hH.2.2.later hb⟩)
          (try clear hH); (try clear hb)
          intro hH
          clear hK K
          (try simp only [cq])
          refine tkY 17 (some 109) ?_ ?_ ?_
          rotate_left
          · intro w _; go_simp; (try with_reducible rfl)
          (try simp only [cq])
          refine tkY 18 (some 127) ?_ ?_ ?_
          rotate_left
          · intro w _; go_simp; (try with_reducible rfl)
          (try simp only [cq])
          refine tkY 19 (some 128) ?_ ?_ ?_
          rotate_left
          · intro w _; go_simp; (try with_reducible rfl)
          (try simp only [cq])
          refine tkY 20 (some 24) ?_ ?_ ?_
          rotate_left
          · intro w _; go_simp; (try with_reducible rfl)
          (try simp only [cq])
          refine tkY 21 (some 25) ?_ ?_ ?_
          rotate_left
          · intro w _; go_simp; (try with_reducible rfl)
          (try simp only [cq])
          refine wpAnyH_done (by kernel_rfl) ?_ _
          (try dsimp only [Act.put])
          (try simp only [cq])
          clear hB5 hW5 ru
          obtain ⟨hB5, hW5, ru⟩ := hH
          have HSm := Lib.hid (ksame_yes u u' hN X _ ru ru')
          clear ru ru'
          go_wp2_with fail
          refine HSm.out.mono ?_
          rintro e w8 ⟨rfl, hb⟩
          replace hB5 := bwS hB5 (Nat.le_refl _) hb
          replace hW5 := bwS hW5 (Nat.le_refl _) hb
          clear hb HSm
          go_wp2_with fail
          go_loopw [26] (fun i wx => ∃ q : Nat, q ≤ m2 ∧ i = .int .i64 q ∧ Below V.heap.size V wx ∧ Below w5.heap.size w5 wx) (fun i _ => m2 - (intOf i).toNat)
          case atStart => exact ⟨0, Nat.zero_le _, rfl, hB5, hW5⟩
          case round =>
            clear hB5 hW5
            obtain ⟨q, hq, rfl, hB5, hW5⟩ := hrel
            by_cases hlt3 : q < m2
            · obtain ⟨bG, oG, rfl, hG⟩ := HG3.out (by omega)
              have HGq := Lib.hid (hG q hlt3)
              obtain ⟨a', c', hv', _, _, h3'⟩ := HG.out
              simp only [Value.slice.injEq] at hv'
              obtain ⟨rfl, _, rfl⟩ := hv'
              obtain ⟨bN, oN, rfl, hNc⟩ := h3' (by omega)
              have HNq := Lib.hid (hNc q hlt3)
              have hqm : (q : Int) < (m2 : Int) := by omega
              clear hG h3' hNc HG3
              obtain ⟨y, hy⟩ : ∃ y, N q = y := ⟨_, rfl⟩
              rw [hy] at HGq HNq
              clear hy
              go_upto_region 18 with fail
              refine wp_region_held_drew (S := (fun v => Below V.heap.size V v ∧ Below w5.heap.size w5 v)) (by kernel_rfl) ?_ (fun hH => ?_)
              · (try dsimp only); (exact ⟨hB5.drew, hW5.drew⟩)
              refine tkY 0 (some 144) ?_ ?_ ?_
              rotate_left
              · intro w _; go_simp; (try with_reducible rfl)
              (try simp only [cq])
              refine tkY 1 (some 145) ?_ ?_ ?_
              rotate_left
              · intro w _; go_simp; (try with_reducible rfl)
              (try simp only [cq])
              refine tkY 2 (some 146) ?_ ?_ ?_
              rotate_left
              · intro w hS0; (try dsimp only at hS0); have l0 := cell_later hS0.1 HR.out.l; have g0 := cell_later hS0.1 HGq.out.1; have g1 := cell_later hS0.1 HGq.out.2.1; have g2 := cell_later hS0.1 HGq.out.2.2.1; have g3 := cell_later hS0.1 HGq.out.2.2.2; have e0 := cell_later hS0.2 HNq.out.1; have e1 := cell_later hS0.2 HNq.out.2.1; have e4 := cell_later hS0.2 HNq.out.2.2.1; have e3 := cell_later hS0.2 HNq.out.2.2.2; have y1 := World.block_lt_of_cell? _ _ l0; have y2 := World.block_lt_of_cell? _ _ g0; have y3 := World.block_lt_of_cell? _ _ e0;go_simp; (try with_reducible rfl)
              (try simp only [cq])
              refine tkY 3 (some 147) ?_ ?_ ?_
              rotate_left
              · intro w hS0; (try dsimp only at hS0); have l0 := cell_later hS0.1 HR.out.l; have g0 := cell_later hS0.1 HGq.out.1; have g1 := cell_later hS0.1 HGq.out.2.1; have g2 := cell_later hS0.1 HGq.out.2.2.1; have g3 := cell_later hS0.1 HGq.out.2.2.2; have e0 := cell_later hS0.2 HNq.out.1; have e1 := cell_later hS0.2 HNq.out.2.1; have e4 := cell_later hS0.2 HNq.out.2.2.1; have e3 := cell_later hS0.2 HNq.out.2.2.2; have y1 := World.block_lt_of_cell? _ _ l0; have y2 := World.block_lt_of_cell? _ _ g0; have y3 := World.block_lt_of_cell? _ _ e0;go_simp; (try with_reducible rfl)
              (try simp only [cq])
              refine tkY 4 (some 148) ?_ ?_ ?_
              rotate_left
              · intro w _; go_simp; (try with_reducible rfl)
              (try simp only [cq])
              refine tkY 5 (some 149) ?_ ?_ ?_
              rotate_left
              · intro w _; go_simp; (try with_reducible rfl)
              (try simp only [cq])
              refine tkY 6 (some 150) ?_ ?_ ?_
              rotate_left
              · intro w hS0; (try dsimp only at hS0); have l0 := cell_later hS0.1 HR.out.l; have g0 := cell_later hS0.1 HGq.out.1; have g1 := cell_later hS0.1 HGq.out.2.1; have g2 := cell_later hS0.1 HGq.out.2.2.1; have g3 := cell_later hS0.1 HGq.out.2.2.2; have e0 := cell_later hS0.2 HNq.out.1; have e1 := cell_later hS0.2 HNq.out.2.1; have e4 := cell_later hS0.2 HNq.out.2.2.1; have e3 := cell_later hS0.2 HNq.out.2.2.2; have y1 := World.block_lt_of_cell? _ _ l0; have y2 := World.block_lt_of_cell? _ _ g0; have y3 := World.block_lt_of_cell? _ _ e0;go_simp; (try with_reducible rfl)
              (try simp only [cq])
              refine tkY 7 (some 151) ?_ ?_ ?_
              rotate_left
              · intro w hS0; (try dsimp only at hS0); have l0 := cell_later hS0.1 HR.out.l; have g0 := cell_later hS0.1 HGq.out.1; have g1 := cell_later hS0.1 HGq.out.2.1; have g2 := cell_later hS0.1 HGq.out.2.2.1; have g3 := cell_later hS0.1 HGq.out.2.2.2; have e0 := cell_later hS0.2 HNq.out.1; have e1 := cell_later hS0.2 HNq.out.2.1; have e4 := cell_later hS0.2 HNq.out.2.2.1; have e3 := cell_later hS0.2 HNq.out.2.2.2; have y1 := World.block_lt_of_cell? _ _ l0; have y2 := World.block_lt_of_cell? _ _ g0; have y3 := World.block_lt_of_cell? _ _ e0;go_simp; (try with_reducible rfl)
              (try simp only [cq])
              refine tkY 8 (some 152) ?_ ?_ ?_
              rotate_left
              · intro w _; go_simp; (try with_reducible rfl)
              (try simp only [cq])
              refine tkY 9 (some 153) ?_ ?_ ?_
              rotate_left
              · intro w hS0; (try dsimp only at hS0); have l0 := cell_later hS0.1 HR.out.l; have g0 := cell_later hS0.1 HGq.out.1; have g1 := cell_later hS0.1 HGq.out.2.1; have g2 := cell_later hS0.1 HGq.out.2.2.1; have g3 := cell_later hS0.1 HGq.out.2.2.2; have e0 := cell_later hS0.2 HNq.out.1; have e1 := cell_later hS0.2 HNq.out.2.1; have e4 := cell_later hS0.2 HNq.out.2.2.1; have e3 := cell_later hS0.2 HNq.out.2.2.2; have y1 := World.block_lt_of_cell? _ _ l0; have y2 := World.block_lt_of_cell? _ _ g0; have y3 := World.block_lt_of_cell? _ _ e0;go_simp; (try with_reducible rfl)
              (try simp only [cq])
              refine tkY 10 (some 154) ?_ ?_ ?_
              rotate_left
              · intro w hS0; (try dsimp only at hS0); have l0 := cell_later hS0.1 HR.out.l; have g0 := cell_later hS0.1 HGq.out.1; have g1 := cell_later hS0.1 HGq.out.2.1; have g2 := cell_later hS0.1 HGq.out.2.2.1; have g3 := cell_later hS0.1 HGq.out.2.2.2; have e0 := cell_later hS0.2 HNq.out.1; have e1 := cell_later hS0.2 HNq.out.2.1; have e4 := cell_later hS0.2 HNq.out.2.2.1; have e3 := cell_later hS0.2 HNq.out.2.2.2; have y1 := World.block_lt_of_cell? _ _ l0; have y2 := World.block_lt_of_cell? _ _ g0; have y3 := World.block_lt_of_cell? _ _ e0;go_simp; (try with_reducible rfl)
              (try simp only [cq])
              refine tkY 11 (some 155) ?_ ?_ ?_
              rotate_left
              · intro w _; go_simp; (try with_reducible rfl)
              (try simp only [cq])
              refine wpAnyH_done (by kernel_rfl) ?_ _
              (try dsimp only [Act.put])
              (try simp only [cq])
              clear hB5 hW5
              obtain ⟨hB5, hW5⟩ := hH
              go_wp2
              go_roundw
              case rel => exact ⟨q + 1, by omega, by go_num, hB5, hW5⟩
              case measure => simp [intOf]; omega
            · go_wp2
              go_roundw
              case rel => exact ⟨k + 1, by omega, by go_num, hB5⟩
              case measure => simp [intOf]; omega
        · have jB := bwS HB.out (by have := HB.out.size; omega) hB
          clear hB HRd
          go_wp2_with fail
          refine (awake_any _).mono ?_
          rintro e w9 ⟨rfl, hb⟩
          replace jB := bwS jB (Nat.le_refl _) hb
          go_wp2
          go_ret
          exact ⟨rfl, jB⟩
end Go.Proofs.Ytfakmggabicdjaa
